import Derived.Test.YtodlpmepoakdlaaGreatMMod7
import Derived.Test.YtodlpmepoakdlaaGreatMRbits
import Derived.Test.YtodlpmepoakdlaaGreatMRefA
import Derived.Test.YtodlpmepoakdlaaGreatMSmall
namespace Go.Proofs.YtodlpmepoakdlaaGreat
set_option maxRecDepth 100000
set_option maxHeartbeats 8000000
open Go.RowKit
set_option linter.unusedSimpArgs false
set_option linter.unusedVariables false
attribute [local go_sem ↓] Go.wp_at_zero Go.wp_at_succ

theorem rs_yes (A B M : Nat) (hM : M < 2 ^ 256) (h1 : 1 < M) (hA : A < M) (hB : B < M) : ∀ w, Calls Tryz.prog 72 #[num A, num B, num M] w fun e w' => e = .returned (.tuple #[num ((A + M - B) % M), .int .i64 0]) ∧ Below w.heap.size w w' := by
 have MY := Jdp A B M (by omega) (by omega) hM
 rw [show decide (1 < M ∧ A < M ∧ B < M) = true from decide_eq_true ⟨h1, hA, hB⟩] at MY
 obtain ⟨S, c, hS, hc, he, _⟩ := Jaj A B (by omega) (by omega)
 have C := Xq A B S c (by omega) (by omega) hS hc he
 have h01 : c = 0 ∨ c = 1 := by omega
 rcases h01 with rfl | rfl
 ·rw [show (A + M - B) % M = S by rw [show A + M - B = S + M by omega, Nat.add_mod_right, Nat.mod_eq_of_lt (by omega)]]
  exact fun w => rsub4_a A B M S MY C w
 ·obtain ⟨L, d, hL, hd, he2, _⟩ := Jdl S M hS hM
  have C2 := Jcr S M L d hS hM hL hd he2
  rw [show (A + M - B) % M = L by rw [Nat.mod_eq_of_lt (by omega)]; omega]
  exact fun w => rsub4_b A B M S L d MY C C2 w
theorem Jdn (X : Nat) (h : X < 18446744073709551616) : wd X 0 = X := by unfold wd; rw [Nat.pow_zero, Nat.div_one, Nat.mod_eq_of_lt h]
theorem Jbz (a b : Nat) (ha : a < 18446744073709551616) (hb : b < 18446744073709551616) (w : World) : Calls Tryz.prog 62 #[.int .u64 (a : Nat), .int .u64 (b : Nat)] w fun e w' => e = .returned (.tuple #[.int .u64 ((a * b / 18446744073709551616 : Nat) : Int), .int .u64 ((a * b % 18446744073709551616 : Nat) : Int)]) ∧ Below w.heap.size w w' := (mul64 a b ha hb w).mono fun e w' ⟨he, hw⟩ => ⟨he, by rw [← hw]; exact Below.refl _ _⟩
theorem rt_any (A B M : Nat) (hA : A < M) (hB : B < M) (hM : M < 2 ^ 256) (h1 : 1 < M) : ∀ w, Calls Tryz.prog 47 #[num A, num B, num M] w fun e w' => e = .returned (num (A * B % M)) ∧ Below w.heap.size w w' := by
 have W := Xf M hM
 by_cases hm : M < 18446744073709551616
 ·rw [show decide (M < 18446744073709551616) = true from decide_eq_true hm] at W
  have X := Jbz (wd A 0) (wd B 0) (Kw _ _) (Kw _ _)
  rw [Jdn A (by omega), Jdn B (by omega)] at X
  have hlt : A * B / 18446744073709551616 < M := by
   refine Nat.div_lt_of_lt_mul ?_
   have : A * B < M * M := Nat.mul_lt_mul'' hA hB
   have : M * M ≤ 18446744073709551616 * M := Nat.mul_le_mul_right _ (by omega)
   omega
  have D := Jch (A * B / 18446744073709551616) (A * B % 18446744073709551616) M hlt hm (Nat.mod_lt _ (by decide))
  rw [show A * B / 18446744073709551616 * 18446744073709551616 + A * B % 18446744073709551616 = A * B by rw [Nat.mul_comm]; exact Nat.div_add_mod _ _] at D
  have R := Vt (A * B % M) (Nat.lt_trans (Nat.mod_lt _ (by omega)) hm)
  intro w
  refine times4_w A B M (A * B / 18446744073709551616) (A * B % 18446744073709551616) (A * B / M) (A * B % M) W (fun w => ?_) (fun w => ?_) R w
  ·rw [Jdn A (by omega), Jdn B (by omega)]; exact X w
  ·rw [Jdn M hm]; exact D w
 ·rw [show decide (M < 18446744073709551616) = false from decide_eq_false hm] at W
  obtain ⟨L, H, hL, hH, he, _⟩ := Xc A B (by omega) (by omega)
  have MM := Jbl A B L H (by omega) (by omega) hL hH he
  have WD := rwide_long L H M hL hH hM (by omega) (fun w => by rw [eqZ M hM]; simp; omega) (by have W2 := Xf M hM; rw [show decide (M < 18446744073709551616) = false from decide_eq_false hm] at W2; exact W2)
  rw [show wide H L % M = A * B % M by unfold wide; rw [he, Nat.add_comm, Nat.mul_comm]] at WD
  exact fun w => times4_l A B M L H _ W MM WD w
theorem rm_yes (A B M : Nat) (hM : M < 2 ^ 256) (h1 : 1 < M) (hA : A < M) (hB : B < M) : ∀ w, Calls Tryz.prog 21 #[num A, num B, num M] w fun e w' => e = .returned (.tuple #[num (A * B % M), .int .i64 0]) ∧ Below w.heap.size w w' := by
 have MY := Jdp A B M (by omega) (by omega) hM
 rw [show decide (1 < M ∧ A < M ∧ B < M) = true from decide_eq_true ⟨h1, hA, hB⟩] at MY
 exact fun w => rmul4_y A B M _ MY (rt_any A B M hA hB hM h1) w
theorem wordp_any (A N M V : Nat) (hA : A < M) (h1 : 1 < M) (hM : M < 18446744073709551616) (hN : N < 2 ^ 256) (hV : V = A ^ N % M) (w : World) : Calls Tryz.prog 45 #[.int .u64 (A : Nat), num N, .int .u64 (M : Nat)] w fun e w' => e = .returned (.int .u64 (V : Nat)) ∧ Below w.heap.size w w' := by
 have IB := Jbw N hN
 obtain ⟨m, hm⟩ : ∃ m, Go.bitLen N = m := ⟨_, rfl⟩
 have hm256 : m ≤ 256 := by rw [← hm]; exact Jcj N hN
 have hNm : N < 2 ^ m := by rw [← hm]; exact (Go.bitLen_spec N).1
 rw [hm] at IB
 have gmw : IntKind.i64.wrap ((m : Int) - 1) = (m : Int) - 1 := by rw [IntKind.wrap_i64]; omega
 have gmz : (M : Int) ≠ 0 := by omega
 have g1 : Int.tmod 1 (M : Int) = 1 := by rw [Int.tmod_eq_emod_of_nonneg (by omega)]; exact Int.emod_eq_of_lt (by omega) (by omega)
 have g1e : (1 : Int) % (M : Int) = 1 := Int.emod_eq_of_lt (by omega) (by omega)
 have HIB := Jfg IB; have HNM := Jfg hNm; have HA := Jfg hA; have H1 := Jfg h1; have HM := Jfg hM; have HN := Jfg hN; have HV := Jfg hV
 clear IB hNm hA h1 hM hN hV hm
 go_enter Tryz.func45, Tryz.ntmps45
 go_wp2_with fail
 have BW := Jfg (Below.refl w.heap.size w)
 generalize hW1 : (w.alloc (.cells (ncs N) 24)) = W1 at *
 have Nn : At W1 (w.heap.size) _ _ := Jb hW1 (At.at_ _ _ _ _ (by simp))
 have NB := gr_of hW1 (gr_alloc BW.out _)
 clear BW
 clear hW1
 obtain ⟨gn, hg0⟩ : ∃ g, g = w.heap.size := ⟨_, rfl⟩
 rw [← hg0] at Nn ⊢
 clear hg0
 have Fn := Jfg Nn
 have BW := Jfg NB
 clear NB Nn
 refine (HIB.out _).mono ?_
 rintro e v2 ⟨rfl, z2⟩
 have Nn := Jfg (Fn.out.on z2)
 have NB := Jfg (bel_tr BW.out z2)
 clear BW z2 Fn
 have Fn := Nn
 have BW := NB
 clear NB Nn
 go_wp2_with fail
 go_loopw [7, 8] (fun a b wr => ∃ i r : Nat, i ≤ m ∧ a = .int .u64 (r : Nat) ∧ b = .int .i64 ((i : Int) - 1) ∧ Hid (At wr gn 24 (ncs N) ∧ Below w.heap.size w wr ∧ r = A ^ (N / 2 ^ i) % M)) (fun _ b _ => (intOf b + 1).toNat)
 case atStart =>
  refine ⟨m, 1, Nat.le_refl _, rfl, rfl, Fn.out, BW.out, ?_⟩
  rw [Nat.div_eq_of_lt HNM.out, Nat.pow_zero, Nat.mod_eq_of_lt H1.out]
 case round =>
  obtain ⟨i, r, hi, rfl, rfl, hM⟩ := hrel
  clear BW Fn
  have Fn := Jfg hM.out.1; have BW := Jfg hM.out.2.1; have HR := Jfg hM.out.2.2
  clear hM
  by_cases h0 : i = 0
  ·subst h0
   have hr : r = V := by rw [HR.out, HV.out, Nat.pow_zero, Nat.div_one]
   subst hr
   go_wp2_with fail
   go_ret
   exact ⟨rfl, BW.out⟩
  ·obtain ⟨j, rfl⟩ : ∃ j, i = j + 1 := ⟨i - 1, by omega⟩
   have j256 : j < 256 := by omega
   have e1 : (((j + 1 : Nat) : Int) - 1) = (j : Nat) := by omega
   rw [e1]
   clear e1 h0
   have hMz : 0 < M := by have := H1.out; omega
   have hrM : r < M := by rw [HR.out]; exact Nat.mod_lt _ hMz
   have hM64 := HM.out
   have hAM := HA.out
   have M1 := Jbz r r (by omega) (by omega)
   obtain ⟨ph, hph⟩ : ∃ p, p = r * r / 18446744073709551616 := ⟨_, rfl⟩
   obtain ⟨pl, hpl⟩ : ∃ p, p = r * r % 18446744073709551616 := ⟨_, rfl⟩
   rw [← hph, ← hpl] at M1
   have hlt : ph < M := by
    rw [hph]; refine Nat.div_lt_of_lt_mul ?_
    have a1 : r * r < M * M := Nat.mul_lt_mul'' hrM hrM
    have a2 : M * M ≤ 18446744073709551616 * M := Nat.mul_le_mul_right _ (by omega)
    omega
   have D1 := Jch ph pl M hlt hM64 (by rw [hpl]; exact Nat.mod_lt _ (by decide))
   rw [show ph * 18446744073709551616 + pl = r * r by rw [hph, hpl, Nat.mul_comm]; exact Nat.div_add_mod _ _] at D1
   obtain ⟨q1, hq1⟩ : ∃ q, q = r * r / M := ⟨_, rfl⟩
   obtain ⟨r1, hr1⟩ : ∃ q, q = r * r % M := ⟨_, rfl⟩
   rw [← hq1, ← hr1] at D1
   have hr1M : r1 < M := by rw [hr1]; exact Nat.mod_lt _ hMz
   have M2 := Jbz r1 A (by omega) (by omega)
   obtain ⟨sh, hsh⟩ : ∃ p, p = r1 * A / 18446744073709551616 := ⟨_, rfl⟩
   obtain ⟨sl, hsl⟩ : ∃ p, p = r1 * A % 18446744073709551616 := ⟨_, rfl⟩
   rw [← hsh, ← hsl] at M2
   have hlt2 : sh < M := by
    rw [hsh]; refine Nat.div_lt_of_lt_mul ?_
    have a1 : r1 * A < M * M := Nat.mul_lt_mul'' hr1M hAM
    have a2 : M * M ≤ 18446744073709551616 * M := Nat.mul_le_mul_right _ (by omega)
    omega
   have D2 := Jch sh sl M hlt2 hM64 (by rw [hsl]; exact Nat.mod_lt _ (by decide))
   rw [show sh * 18446744073709551616 + sl = r1 * A by rw [hsh, hsl, Nat.mul_comm]; exact Nat.div_add_mod _ _] at D2
   obtain ⟨q2, hq2⟩ : ∃ q, q = r1 * A / M := ⟨_, rfl⟩
   obtain ⟨r2, hr2⟩ : ∃ q, q = r1 * A % M := ⟨_, rfl⟩
   rw [← hq2, ← hr2] at D2
   obtain ⟨k, hk⟩ : ∃ k, k = j / 64 := ⟨_, rfl⟩
   obtain ⟨jb, hjb⟩ : ∃ k, k = j % 64 := ⟨_, rfl⟩
   have k4 : k < 4 := by omega
   have jb64 : jb < 64 := by omega
   obtain ⟨wn, hwn⟩ : ∃ x, x = wd N k := ⟨_, rfl⟩
   have wl : wn < 18446744073709551616 := by rw [hwn]; exact Kw _ _
   obtain ⟨ws, hws⟩ : ∃ x, x = wn / 2 ^ jb := ⟨_, rfl⟩
   have wsl : ws < 18446744073709551616 := by rw [hws]; exact Nat.lt_of_le_of_lt (Nat.div_le_self _ _) wl
   have hbit : ws % 2 = N / 2 ^ j % 2 := by rw [hws, hwn, wd_bit N k jb jb64, show 64 * k + jb = j by omega]
   have cnk : wr.cell? ⟨gn, k, none⟩ = some (.int .u64 (wn : Nat)) := by rw [hwn]; exact Fn.out.word k4
   have Ln := Fn.out.lt
   have gd : Int.tdiv (j : Int) 64 = (k : Nat) := by rw [Int.tdiv_eq_ediv_of_nonneg (by omega)]; omega
   have gd2 : (j : Int) / 64 = (k : Nat) := by omega
   have gm : Int.tmod (j : Int) 64 = (jb : Nat) := by rw [Int.tmod_eq_emod_of_nonneg (by omega)]; omega
   have gm2 : (j : Int) % 64 = (jb : Nat) := by omega
   have gw : IntKind.i64.wrap (k : Int) = (k : Nat) := by rw [IntKind.wrap_i64]; omega
   have gwj : IntKind.i64.wrap (jb : Int) = (jb : Nat) := by rw [IntKind.wrap_i64]; omega
   have j0 : (0 : Int) ≤ (j : Int) := by omega
   have k0 : (0 : Int) ≤ (k : Int) := by omega
   have k4i : (k : Int) < 4 := by omega
   have jb0 : (0 : Int) ≤ (jb : Int) := by omega
   have jb64i : (jb : Int) < 64 := by omega
   have gsh : (wn : Int) / 2 ^ jb = (ws : Nat) := by rw [hws, show ((2 : Int) ^ jb) = ((2 ^ jb : Nat) : Int) by simp]; exact (Int.natCast_ediv _ _).symm
   have gan : bits BinOp.and IntKind.u64 (ws : Int) 1 = ((ws % 2 : Nat) : Int) := by rw [show (1 : Int) = ((1 : Nat) : Int) from rfl, u64_and_nat _ _ wsl (by decide), nat_mask1]
   have hE : r1 = A ^ (2 * (N / 2 ^ (j + 1))) % M := by rw [hr1, HR.out, Jan]
   have HM1 := Jfg M1; have HD1 := Jfg D1; have HM2 := Jfg M2; have HD2 := Jfg D2; have HE := Jfg hE; have HR2 := Jfg hr2; have HJ := Jfg j256
   have hhalf := Vv N j
   have h01 : N / 2 ^ j % 2 = 0 ∨ N / 2 ^ j % 2 = 1 := by omega
   have HWN := Jfg hwn
   clear M1 D1 M2 D2 hE hr2 hph hpl hlt hq1 hr1 hsh hsl hlt2 hq2 hk hjb hwn wl hws wsl hMz hrM hM64 hAM hr1M
   rcases h01 with hb | hb
   ·rw [hb] at hbit
    rw [hbit] at gan
    have HB := Jfg hb; have HH := Jfg hhalf
    clear hb hbit hhalf
    go_wp2_with fail
    clear cnk Ln
    refine (HM1.out _).mono ?_
    rintro e v3 ⟨rfl, z3⟩
    have Nn := Jfg (Fn.out.on z3); have NB := Jfg (bel_tr BW.out z3)
    clear Fn BW z3
    have Fn := Nn; have BW := NB
    clear Nn NB
    go_wp2_with fail
    refine (HD1.out _).mono ?_
    rintro e v4 ⟨rfl, z4⟩
    have Nn := Jfg (Fn.out.on z4); have NB := Jfg (bel_tr BW.out z4)
    clear Fn BW z4
    have Fn := Nn; have BW := NB
    clear Nn NB
    have cnk : v4.cell? ⟨gn, k, none⟩ = some (.int .u64 (wn : Nat)) := by have := Fn.out.word k4; rw [← HWN.out] at this; exact this
    have Ln := Fn.out.lt
    go_wp2_with fail
    clear cnk Ln
    go_roundw
    case rel =>
     have hrel : r1 = A ^ (N / 2 ^ j) % M := by have e := HH.out; rw [HB.out] at e; rw [HE.out, e]; rfl
     first
      | exact ⟨j, r1, by omega, rfl, by go_num, Fn.out, BW.out, hrel⟩
      | ((repeat apply Exists.intro); exact ⟨⟨j, r1, by omega, rfl, by go_num, Fn.out, BW.out, hrel⟩, rfl⟩)
    case measure => (simp [intOf] <;> omega)
   ·rw [hb] at hbit
    rw [hbit] at gan
    have HB := Jfg hb; have HH := Jfg hhalf
    clear hb hbit hhalf
    go_wp2_with fail
    clear cnk Ln
    refine (HM1.out _).mono ?_
    rintro e v3 ⟨rfl, z3⟩
    have Nn := Jfg (Fn.out.on z3); have NB := Jfg (bel_tr BW.out z3)
    clear Fn BW z3
    have Fn := Nn; have BW := NB
    clear Nn NB
    go_wp2_with fail
    refine (HD1.out _).mono ?_
    rintro e v4 ⟨rfl, z4⟩
    have Nn := Jfg (Fn.out.on z4); have NB := Jfg (bel_tr BW.out z4)
    clear Fn BW z4
    have Fn := Nn; have BW := NB
    clear Nn NB
    have cnk : v4.cell? ⟨gn, k, none⟩ = some (.int .u64 (wn : Nat)) := by have := Fn.out.word k4; rw [← HWN.out] at this; exact this
    have Ln := Fn.out.lt
    go_wp2_with fail
    clear cnk Ln
    refine (HM2.out _).mono ?_
    rintro e v5 ⟨rfl, z5⟩
    have Nn := Jfg (Fn.out.on z5); have NB := Jfg (bel_tr BW.out z5)
    clear Fn BW z5
    have Fn := Nn; have BW := NB
    clear Nn NB
    go_wp2_with fail
    refine (HD2.out _).mono ?_
    rintro e v6 ⟨rfl, z6⟩
    have Nn := Jfg (Fn.out.on z6); have NB := Jfg (bel_tr BW.out z6)
    clear Fn BW z6
    have Fn := Nn; have BW := NB
    clear Nn NB
    go_wp2_with fail
    go_roundw
    case rel =>
     have hrel : r2 = A ^ (N / 2 ^ j) % M := by have e := HH.out; rw [HB.out] at e; rw [HR2.out, HE.out, Jdo _ _ _ HA.out, e]
     first
      | exact ⟨j, r2, by omega, rfl, by go_num, Fn.out, BW.out, hrel⟩
      | ((repeat apply Exists.intro); exact ⟨⟨j, r2, by omega, rfl, by go_num, Fn.out, BW.out, hrel⟩, rfl⟩)
    case measure => (simp [intOf] <;> omega)

theorem re_w (A N M V : Nat)
  (cm : ∀ w, Calls Tryz.prog 43 #[num A, num A, num M] w fun e w' => e = .returned (.bool true) ∧ Below w.heap.size w w')
  (cw : ∀ w, Calls Tryz.prog 44 #[num M] w fun e w' => e = .returned (.bool true) ∧ Below w.heap.size w w')
  (cp : ∀ w, Calls Tryz.prog 45 #[.int .u64 (wd A 0), num N, .int .u64 (wd M 0)] w fun e w' => e = .returned (.int .u64 (V : Nat)) ∧ Below w.heap.size w w')
  (co : ∀ w, Calls Tryz.prog 42 #[.int .u64 (V : Nat)] w fun e w' => e = .returned (num V) ∧ Below w.heap.size w w')
  (w : World) : Calls Tryz.prog 20 #[num A, num N, num M] w fun e w' => e = .returned (.tuple #[num V, .int .i64 0]) ∧ Below w.heap.size w w' := by
 have Hcm := Jfg cm
 have Hcw := Jfg cw
 have Hcp := Jfg cp
 have Hco := Jfg co
 clear cm cw cp co
 go_enter Tryz.func20, Tryz.ntmps20
 go_wp2_with fail
 have BW := Jfg (Below.refl w.heap.size w)
 have Ex : w.heap.size ≤ w.heap.size + 1 + 1 + 1 := by have := BW.out.size; omega
 have Dax : w.heap.size ≠ w.heap.size + 1 + 1 + 1 := by omega
 have Dnx : w.heap.size + 1 ≠ w.heap.size + 1 + 1 + 1 := by omega
 have Dmx : w.heap.size + 1 + 1 ≠ w.heap.size + 1 + 1 + 1 := by omega
 generalize hW1 : ((((w.alloc (.cells (ncs A) 24)).alloc (.cells (ncs N) 24)).alloc (.cells (ncs M) 24)).alloc (.cells #[.int .u64 0, .int .u64 0, .int .u64 0, .int .u64 0] 24)) = W1 at *
 have Na : At W1 (w.heap.size) _ _ := Jb hW1 ((((At.at_ _ _ _ _ (by simp)).alloc _).alloc _).alloc _)
 have Nn : At W1 (w.heap.size + 1) _ _ := Jb hW1 (((At.at_ _ _ _ _ (by simp)).alloc _).alloc _)
 have Nm : At W1 (w.heap.size + 1 + 1) _ _ := Jb hW1 ((At.at_ _ _ _ _ (by simp)).alloc _)
 have Nx : At W1 (w.heap.size + 1 + 1 + 1) _ _ := Jb hW1 (At.at_ _ _ _ _ (by simp))
 have NB := gr_of hW1 (gr_alloc (gr_alloc (gr_alloc (gr_alloc BW.out _) _) _) _)
 clear hW1 BW 
 generalize w.heap.size + 1 + 1 + 1 = gx at *
 generalize w.heap.size + 1 + 1 = gm at *
 generalize w.heap.size + 1 = gn at *
 obtain ⟨ga, hg0⟩ : ∃ g, g = w.heap.size := ⟨_, rfl⟩
 rw [← hg0] at Na ⊢
 rw [← hg0] at Dax
 clear hg0
 have Fa := Jfg Na
 have Fn := Jfg Nn
 have Fm := Jfg Nm
 have Fx := Jfg Nx
 have BW := Jfg NB
 clear NB Na Nn Nm Nx
 refine (Hcm.out _).mono ?_
 rintro e v2 ⟨rfl, z2⟩
 have Na := Jfg (Fa.out.on z2)
 have Nn := Jfg (Fn.out.on z2)
 have Nm := Jfg (Fm.out.on z2)
 have Nx := Jfg (Fx.out.on z2)
 have NB := Jfg (bel_tr BW.out z2)
 clear BW z2 Fa Fn Fm Fx
 have Fa := Na
 have Fn := Nn
 have Fm := Nm
 have Fx := Nx
 have BW := NB
 clear NB Na Nn Nm Nx
 have Lm := Fm.out.lt
 have cm0 := Fm.out.c0; have cm1 := Fm.out.c1; have cm2 := Fm.out.c2; have cm3 := Fm.out.c3
 go_wp2_with fail
 clear Lm cm0 cm1 cm2 cm3
 refine (Hcw.out _).mono ?_
 rintro e v3 ⟨rfl, z3⟩
 have Na := Jfg (Fa.out.on z3)
 have Nn := Jfg (Fn.out.on z3)
 have Nm := Jfg (Fm.out.on z3)
 have Nx := Jfg (Fx.out.on z3)
 have NB := Jfg (bel_tr BW.out z3)
 clear BW z3 Fa Fn Fm Fx
 have Fa := Na
 have Fn := Nn
 have Fm := Nm
 have Fx := Nx
 have BW := NB
 clear NB Na Nn Nm Nx
 have La := Fa.out.lt
 have ca0 := Fa.out.c0; have ca1 := Fa.out.c1; have ca2 := Fa.out.c2; have ca3 := Fa.out.c3
 have Ln := Fn.out.lt
 have cn0 := Fn.out.c0; have cn1 := Fn.out.c1; have cn2 := Fn.out.c2; have cn3 := Fn.out.c3
 have Lm := Fm.out.lt
 have cm0 := Fm.out.c0; have cm1 := Fm.out.c1; have cm2 := Fm.out.c2; have cm3 := Fm.out.c3
 go_wp2_with fail
 clear La ca0 ca1 ca2 ca3 Ln cn0 cn1 cn2 cn3 Lm cm0 cm1 cm2 cm3
 refine (Hcp.out _).mono ?_
 rintro e v4 ⟨rfl, z4⟩
 have Na := Jfg (Fa.out.on z4)
 have Nn := Jfg (Fn.out.on z4)
 have Nm := Jfg (Fm.out.on z4)
 have Nx := Jfg (Fx.out.on z4)
 have NB := Jfg (bel_tr BW.out z4)
 clear BW z4 Fa Fn Fm Fx
 have Fa := Na
 have Fn := Nn
 have Fm := Nm
 have Fx := Nx
 have BW := NB
 clear NB Na Nn Nm Nx
 go_wp2_with fail
 refine (Hco.out _).mono ?_
 rintro e v5 ⟨rfl, z5⟩
 have Na := Jfg (Fa.out.on z5)
 have Nn := Jfg (Fn.out.on z5)
 have Nm := Jfg (Fm.out.on z5)
 have Nx := Jfg (Fx.out.on z5)
 have NB := Jfg (bel_tr BW.out z5)
 clear BW z5 Fa Fn Fm Fx
 have Fa := Na
 have Fn := Nn
 have Fm := Nm
 have Fx := Nx
 have BW := NB
 clear NB Na Nn Nm Nx
 have Lx := Fx.out.lt
 have cx0 := Fx.out.c0; have cx1 := Fx.out.c1; have cx2 := Fx.out.c2; have cx3 := Fx.out.c3
 obtain ⟨fx0, fx1, fx2, fx3⟩ := Vb Fx.out
 go_wp2_with fail
 clear Lx cx0 cx1 cx2 cx3 fx0 fx1 fx2 fx3
 generalize hW6 : ((((v5.setCell ⟨gx, 0, none⟩ (.int .u64 (wd V 0))).setCell ⟨gx, 1, none⟩ (.int .u64 (wd V 1))).setCell ⟨gx, 2, none⟩ (.int .u64 (wd V 2))).setCell ⟨gx, 3, none⟩ (.int .u64 (wd V 3))) = W6 at *
 have Na := Jb hW6 ((Fa.out).far4 Dax _ _ _ _)
 have Nn := Jb hW6 ((Fn.out).far4 Dnx _ _ _ _)
 have Nm := Jb hW6 ((Fm.out).far4 Dmx _ _ _ _)
 have Nx := Jb hW6 ((Fx.out).put4 _ _ _ _)
 have NB := gr_of hW6 (((((BW.out).setCell Ex _).setCell Ex _).setCell Ex _).setCell Ex _)
 clear hW6 BW Fa Fn Fm Fx
 have Fa := Jfg Na
 have Fn := Jfg Nn
 have Fm := Jfg Nm
 have Fx := Jfg Nx
 have BW := Jfg NB
 clear NB Na Nn Nm Nx
 have Lx := Fx.out.lt
 have cx0 := Fx.out.c0; have cx1 := Fx.out.c1; have cx2 := Fx.out.c2; have cx3 := Fx.out.c3
 refine bodyPost_ret (v := .tuple #[num V, .int .i64 0]) (by simp [results, Tryz.results20, go_sem, *]) rfl ⟨rfl, BW.out⟩

theorem re_l (A N M V : Nat) (hA : A < M) (h1 : 1 < M) (hM : M < 2 ^ 256) (hN : N < 2 ^ 256) (hV : V = A ^ N % M)
  (cm : ∀ w, Calls Tryz.prog 43 #[num A, num A, num M] w fun e w' => e = .returned (.bool true) ∧ Below w.heap.size w w') (cw : ∀ w, Calls Tryz.prog 44 #[num M] w fun e w' => e = .returned (.bool false) ∧ Below w.heap.size w w') (cT : ∀ x y, x < M → y < M → ∀ w, Calls Tryz.prog 47 #[num x, num y, num M] w fun e w' => e = .returned (num (x * y % M)) ∧ Below w.heap.size w w') (w : World) : Calls Tryz.prog 20 #[num A, num N, num M] w fun e w' => e = .returned (.tuple #[num V, .int .i64 0]) ∧ Below w.heap.size w w' := by
 have IB := Jbw N hN
 obtain ⟨m, hm⟩ : ∃ m, Go.bitLen N = m := ⟨_, rfl⟩
 have hm256 : m ≤ 256 := by rw [← hm]; exact Jcj N hN
 have hNm : N < 2 ^ m := by rw [← hm]; exact (Go.bitLen_spec N).1
 rw [hm] at IB
 have gmw : IntKind.i64.wrap ((m : Int) - 1) = (m : Int) - 1 := by rw [IntKind.wrap_i64]; omega
 have IO : ∀ w, Calls Tryz.prog 42 #[.int .u64 1] w fun e w' => e = .returned (num 1) ∧ Below w.heap.size w w' := fun w => Vt 1 (by decide) w
 have HIB := Jfg IB; have HNM := Jfg hNm; have HA := Jfg hA; have H1 := Jfg h1; have HM := Jfg hM; have HN := Jfg hN; have HV := Jfg hV
 have Hcm := Jfg cm; have Hcw := Jfg cw; have HT := Jfg cT; have HIO := Jfg IO
 clear IB hNm hA h1 hM hN hV hm cm cw cT IO
 go_enter Tryz.func20, Tryz.ntmps20
 go_wp2_with fail
 have BW := Jfg (Below.refl w.heap.size w)
 have Ex : w.heap.size ≤ w.heap.size + 1 + 1 + 1 := by have := BW.out.size; omega
 have Dax : w.heap.size ≠ w.heap.size + 1 + 1 + 1 := by omega
 have Dnx : w.heap.size + 1 ≠ w.heap.size + 1 + 1 + 1 := by omega
 have Dmx : w.heap.size + 1 + 1 ≠ w.heap.size + 1 + 1 + 1 := by omega
 generalize hW1 : ((((w.alloc (.cells (ncs A) 24)).alloc (.cells (ncs N) 24)).alloc (.cells (ncs M) 24)).alloc (.cells #[.int .u64 0, .int .u64 0, .int .u64 0, .int .u64 0] 24)) = W1 at *
 have Na : At W1 (w.heap.size) _ _ := Jb hW1 ((((At.at_ _ _ _ _ (by simp)).alloc _).alloc _).alloc _)
 have Nn : At W1 (w.heap.size + 1) _ _ := Jb hW1 (((At.at_ _ _ _ _ (by simp)).alloc _).alloc _)
 have Nm : At W1 (w.heap.size + 1 + 1) _ _ := Jb hW1 ((At.at_ _ _ _ _ (by simp)).alloc _)
 have Nx : At W1 (w.heap.size + 1 + 1 + 1) _ _ := Jb hW1 (At.at_ _ _ _ _ (by simp))
 have NB := gr_of hW1 (gr_alloc (gr_alloc (gr_alloc (gr_alloc BW.out _) _) _) _)
 clear hW1 BW 
 generalize w.heap.size + 1 + 1 + 1 = gx at *
 generalize w.heap.size + 1 + 1 = gm at *
 generalize w.heap.size + 1 = gn at *
 obtain ⟨ga, hg0⟩ : ∃ g, g = w.heap.size := ⟨_, rfl⟩
 rw [← hg0] at Na ⊢
 rw [← hg0] at Dax
 clear hg0
 have Fa := Jfg Na
 have Fn := Jfg Nn
 have Fm := Jfg Nm
 have Fx := Jfg Nx
 have BW := Jfg NB
 clear NB Na Nn Nm Nx
 refine (Hcm.out _).mono ?_
 rintro e v2 ⟨rfl, z2⟩
 have Na := Jfg (Fa.out.on z2)
 have Nn := Jfg (Fn.out.on z2)
 have Nm := Jfg (Fm.out.on z2)
 have Nx := Jfg (Fx.out.on z2)
 have NB := Jfg (bel_tr BW.out z2)
 clear BW z2 Fa Fn Fm Fx
 have Fa := Na
 have Fn := Nn
 have Fm := Nm
 have Fx := Nx
 have BW := NB
 clear NB Na Nn Nm Nx
 have Lm := Fm.out.lt
 have cm0 := Fm.out.c0; have cm1 := Fm.out.c1; have cm2 := Fm.out.c2; have cm3 := Fm.out.c3
 go_wp2_with fail
 clear Lm cm0 cm1 cm2 cm3
 refine (Hcw.out _).mono ?_
 rintro e v3 ⟨rfl, z3⟩
 have Na := Jfg (Fa.out.on z3)
 have Nn := Jfg (Fn.out.on z3)
 have Nm := Jfg (Fm.out.on z3)
 have Nx := Jfg (Fx.out.on z3)
 have NB := Jfg (bel_tr BW.out z3)
 clear BW z3 Fa Fn Fm Fx
 have Fa := Na
 have Fn := Nn
 have Fm := Nm
 have Fx := Nx
 have BW := NB
 clear NB Na Nn Nm Nx
 go_wp2_with fail
 refine (HIO.out _).mono ?_
 rintro e v4 ⟨rfl, z4⟩
 have Na := Jfg (Fa.out.on z4)
 have Nn := Jfg (Fn.out.on z4)
 have Nm := Jfg (Fm.out.on z4)
 have Nx := Jfg (Fx.out.on z4)
 have NB := Jfg (bel_tr BW.out z4)
 clear BW z4 Fa Fn Fm Fx
 have Fa := Na
 have Fn := Nn
 have Fm := Nm
 have Fx := Nx
 have BW := NB
 clear NB Na Nn Nm Nx
 have Ln := Fn.out.lt
 have cn0 := Fn.out.c0; have cn1 := Fn.out.c1; have cn2 := Fn.out.c2; have cn3 := Fn.out.c3
 go_wp2_with fail
 clear Ln cn0 cn1 cn2 cn3
 have Ep : w.heap.size ≤ v4.heap.size := by have := BW.out.size; omega
 have Dap : ga ≠ v4.heap.size := by have := Fa.out.lt; omega
 have Dnp : gn ≠ v4.heap.size := by have := Fn.out.lt; omega
 have Dmp : gm ≠ v4.heap.size := by have := Fm.out.lt; omega
 have Dxp : gx ≠ v4.heap.size := by have := Fx.out.lt; omega
 generalize hW5 : (v4.alloc (.cells #[.int .u64 (wd 1 0), .int .u64 (wd 1 1), .int .u64 (wd 1 2), .int .u64 (wd 1 3)] 24)) = W5 at *
 have Np : At W5 (v4.heap.size) _ _ := Jb hW5 (At.at_ _ _ _ _ (by simp))
 have Na := Jb hW5 (Fa.out.alloc _)
 have Nn := Jb hW5 (Fn.out.alloc _)
 have Nm := Jb hW5 (Fm.out.alloc _)
 have Nx := Jb hW5 (Fx.out.alloc _)
 have NB := gr_of hW5 (gr_alloc BW.out _)
 clear hW5 BW Fa Fn Fm Fx
 generalize v4.heap.size = gp at *
 have Fa := Jfg Na
 have Fn := Jfg Nn
 have Fm := Jfg Nm
 have Fx := Jfg Nx
 have Fp := Jfg Np
 have BW := Jfg NB
 clear NB Na Nn Nm Nx Np
 refine (HIB.out _).mono ?_
 rintro e v6 ⟨rfl, z6⟩
 have Na := Jfg (Fa.out.on z6)
 have Nn := Jfg (Fn.out.on z6)
 have Nm := Jfg (Fm.out.on z6)
 have Nx := Jfg (Fx.out.on z6)
 have Np := Jfg (Fp.out.on z6)
 have NB := Jfg (bel_tr BW.out z6)
 clear BW z6 Fa Fn Fm Fx Fp
 have Fa := Na
 have Fn := Nn
 have Fm := Nm
 have Fx := Nx
 have Fp := Np
 have BW := NB
 clear NB Na Nn Nm Nx Np
 go_wp2_with fail
 go_loopw [9] (fun b wr => ∃ i X : Nat, i ≤ m ∧ b = .int .i64 ((i : Int) - 1) ∧ Hid (At wr ga 24 (ncs A) ∧ At wr gn 24 (ncs N) ∧ At wr gm 24 (ncs M) ∧ At wr gx 24 #[.int .u64 0, .int .u64 0, .int .u64 0, .int .u64 0] ∧ At wr gp 24 (ncs X) ∧ Below w.heap.size w wr ∧ X = A ^ (N / 2 ^ i) % M)) (fun b _ => (intOf b + 1).toNat)
 case atStart =>
  refine ⟨m, 1, Nat.le_refl _, rfl, Fa.out, Fn.out, Fm.out, Fx.out, Fp.out, BW.out, ?_⟩
  rw [Nat.div_eq_of_lt HNM.out, Nat.pow_zero, Nat.mod_eq_of_lt H1.out]
 case round =>
  obtain ⟨i, X, hi, rfl, hM⟩ := hrel
  clear BW Fa Fn Fm Fx Fp
  have Fa := Jfg hM.out.1
  have Fn := Jfg hM.out.2.1
  have Fm := Jfg hM.out.2.2.1
  have Fx := Jfg hM.out.2.2.2.1
  have Fp := Jfg hM.out.2.2.2.2.1
  have BW := Jfg hM.out.2.2.2.2.2.1; have HX := Jfg hM.out.2.2.2.2.2.2
  clear hM
  by_cases h0 : i = 0
  ·subst h0
   have hr : X = V := by rw [HX.out, HV.out, Nat.pow_zero, Nat.div_one]
   subst hr
   have Lp := Fp.out.lt
   have cp0 := Fp.out.c0; have cp1 := Fp.out.c1; have cp2 := Fp.out.c2; have cp3 := Fp.out.c3
   have Lx := Fx.out.lt
   have cx0 := Fx.out.c0; have cx1 := Fx.out.c1; have cx2 := Fx.out.c2; have cx3 := Fx.out.c3
   obtain ⟨fx0, fx1, fx2, fx3⟩ := Vb Fx.out
   go_wp2_with fail
   clear Lp cp0 cp1 cp2 cp3 Lx cx0 cx1 cx2 cx3 fx0 fx1 fx2 fx3
   generalize hW7 : ((((wr.setCell ⟨gx, 0, none⟩ (.int .u64 (wd X 0))).setCell ⟨gx, 1, none⟩ (.int .u64 (wd X 1))).setCell ⟨gx, 2, none⟩ (.int .u64 (wd X 2))).setCell ⟨gx, 3, none⟩ (.int .u64 (wd X 3))) = W7 at *
   have Na := Jb hW7 ((Fa.out).far4 Dax _ _ _ _)
   have Nn := Jb hW7 ((Fn.out).far4 Dnx _ _ _ _)
   have Nm := Jb hW7 ((Fm.out).far4 Dmx _ _ _ _)
   have Nx := Jb hW7 ((Fx.out).put4 _ _ _ _)
   have Np := Jb hW7 ((Fp.out).far4 Dxp.symm _ _ _ _)
   have NB := gr_of hW7 (((((BW.out).setCell Ex _).setCell Ex _).setCell Ex _).setCell Ex _)
   clear hW7 BW Fa Fn Fm Fx Fp
   have Fa := Jfg Na
   have Fn := Jfg Nn
   have Fm := Jfg Nm
   have Fx := Jfg Nx
   have Fp := Jfg Np
   have BW := Jfg NB
   clear NB Na Nn Nm Nx Np
   have Lx := Fx.out.lt
   have cx0 := Fx.out.c0; have cx1 := Fx.out.c1; have cx2 := Fx.out.c2; have cx3 := Fx.out.c3
   exact bodyPost_ret (v := .tuple #[num X, .int .i64 0]) (by simp [results, Tryz.results20, go_sem, *]) rfl ⟨rfl, BW.out⟩
  ·obtain ⟨j, rfl⟩ : ∃ j, i = j + 1 := ⟨i - 1, by omega⟩
   have j256 : j < 256 := by omega
   have e1 : (((j + 1 : Nat) : Int) - 1) = (j : Nat) := by omega
   rw [e1]
   clear e1 h0
   have j0 : (0 : Int) ≤ (j : Int) := by omega
   have hMz : 0 < M := by have := H1.out; omega
   have hXM : X < M := by rw [HX.out]; exact Nat.mod_lt _ hMz
   have T1 := HT.out X X hXM hXM
   obtain ⟨Y, hY⟩ : ∃ Y, Y = X * X % M := ⟨_, rfl⟩
   rw [← hY] at T1
   have hYM : Y < M := by rw [hY]; exact Nat.mod_lt _ hMz
   have T2 := HT.out Y A hYM HA.out
   obtain ⟨Z, hZ⟩ : ∃ Z, Z = Y * A % M := ⟨_, rfl⟩
   rw [← hZ] at T2
   have hE : Y = A ^ (2 * (N / 2 ^ (j + 1))) % M := by rw [hY, HX.out, Jan]
   have hbt : bt N (j : Int) = N / 2 ^ j % 2 := by unfold bt; rw [if_neg (by omega), Int.toNat_natCast]
   have CB := Jam N HN.out (j : Int)
   have hhalf := Vv N j
   have h01 : N / 2 ^ j % 2 = 0 ∨ N / 2 ^ j % 2 = 1 := by omega
   have HT1 := Jfg T1; have HT2 := Jfg T2; have HE := Jfg hE; have HZ := Jfg hZ
   clear T1 T2 hE hZ hY hYM hMz hXM
   rcases h01 with hb | hb
   ·rw [hbt, hb] at CB
    have CB0 : ∀ w, Calls Tryz.prog 48 #[num N, .int .i64 (j : Nat)] w fun e w' => e = .returned (.int .u64 0) ∧ Below w.heap.size w w' := fun w => CB w
    have HCB := Jfg CB0; have HB := Jfg hb; have HH := Jfg hhalf
    clear CB CB0 hb hbt hhalf
    have Lp := Fp.out.lt
    have cp0 := Fp.out.c0; have cp1 := Fp.out.c1; have cp2 := Fp.out.c2; have cp3 := Fp.out.c3
    have Lm := Fm.out.lt
    have cm0 := Fm.out.c0; have cm1 := Fm.out.c1; have cm2 := Fm.out.c2; have cm3 := Fm.out.c3
    go_wp2_with fail
    clear Lp cp0 cp1 cp2 cp3 Lm cm0 cm1 cm2 cm3
    refine (HT1.out _).mono ?_
    rintro e v7 ⟨rfl, z7⟩
    have Na := Jfg (Fa.out.on z7)
    have Nn := Jfg (Fn.out.on z7)
    have Nm := Jfg (Fm.out.on z7)
    have Nx := Jfg (Fx.out.on z7)
    have Np := Jfg (Fp.out.on z7)
    have NB := Jfg (bel_tr BW.out z7)
    clear BW z7 Fa Fn Fm Fx Fp
    have Fa := Na
    have Fn := Nn
    have Fm := Nm
    have Fx := Nx
    have Fp := Np
    have BW := NB
    clear NB Na Nn Nm Nx Np
    have Lp := Fp.out.lt
    have cp0 := Fp.out.c0; have cp1 := Fp.out.c1; have cp2 := Fp.out.c2; have cp3 := Fp.out.c3
    obtain ⟨fp0, fp1, fp2, fp3⟩ := Vb Fp.out
    have Ln := Fn.out.lt
    have cn0 := Fn.out.c0; have cn1 := Fn.out.c1; have cn2 := Fn.out.c2; have cn3 := Fn.out.c3
    go_wp2_with fail
    clear Lp cp0 cp1 cp2 cp3 fp0 fp1 fp2 fp3 Ln cn0 cn1 cn2 cn3
    generalize hW8 : ((((v7.setCell ⟨gp, 0, none⟩ (.int .u64 (wd Y 0))).setCell ⟨gp, 1, none⟩ (.int .u64 (wd Y 1))).setCell ⟨gp, 2, none⟩ (.int .u64 (wd Y 2))).setCell ⟨gp, 3, none⟩ (.int .u64 (wd Y 3))) = W8 at *
    have Na := Jb hW8 ((Fa.out).far4 Dap _ _ _ _)
    have Nn := Jb hW8 ((Fn.out).far4 Dnp _ _ _ _)
    have Nm := Jb hW8 ((Fm.out).far4 Dmp _ _ _ _)
    have Nx := Jb hW8 ((Fx.out).far4 Dxp _ _ _ _)
    have Np := Jb hW8 ((Fp.out).put4 _ _ _ _)
    have NB := gr_of hW8 (((((BW.out).setCell Ep _).setCell Ep _).setCell Ep _).setCell Ep _)
    clear hW8 BW Fa Fn Fm Fx Fp
    have Fa := Jfg Na
    have Fn := Jfg Nn
    have Fm := Jfg Nm
    have Fx := Jfg Nx
    have Fp := Jfg Np
    have BW := Jfg NB
    clear NB Na Nn Nm Nx Np
    refine (HCB.out _).mono ?_
    rintro e v9 ⟨rfl, z9⟩
    have Na := Jfg (Fa.out.on z9)
    have Nn := Jfg (Fn.out.on z9)
    have Nm := Jfg (Fm.out.on z9)
    have Nx := Jfg (Fx.out.on z9)
    have Np := Jfg (Fp.out.on z9)
    have NB := Jfg (bel_tr BW.out z9)
    clear BW z9 Fa Fn Fm Fx Fp
    have Fa := Na
    have Fn := Nn
    have Fm := Nm
    have Fx := Nx
    have Fp := Np
    have BW := NB
    clear NB Na Nn Nm Nx Np
    go_wp2_with fail
    go_roundw
    case rel =>
     have hrel : Y = A ^ (N / 2 ^ j) % M := by have e := HH.out; rw [HB.out] at e; rw [HE.out, e]; rfl
     first
      | exact ⟨j, Y, by omega, by go_num, Fa.out, Fn.out, Fm.out, Fx.out, Fp.out, BW.out, hrel⟩
      | ((repeat apply Exists.intro); exact ⟨⟨j, Y, by omega, by go_num, Fa.out, Fn.out, Fm.out, Fx.out, Fp.out, BW.out, hrel⟩, rfl⟩)
    case measure => (simp [intOf] <;> omega)
   ·rw [hbt, hb] at CB
    have CB0 : ∀ w, Calls Tryz.prog 48 #[num N, .int .i64 (j : Nat)] w fun e w' => e = .returned (.int .u64 1) ∧ Below w.heap.size w w' := fun w => CB w
    have HCB := Jfg CB0; have HB := Jfg hb; have HH := Jfg hhalf
    clear CB CB0 hb hbt hhalf
    have Lp := Fp.out.lt
    have cp0 := Fp.out.c0; have cp1 := Fp.out.c1; have cp2 := Fp.out.c2; have cp3 := Fp.out.c3
    have Lm := Fm.out.lt
    have cm0 := Fm.out.c0; have cm1 := Fm.out.c1; have cm2 := Fm.out.c2; have cm3 := Fm.out.c3
    go_wp2_with fail
    clear Lp cp0 cp1 cp2 cp3 Lm cm0 cm1 cm2 cm3
    refine (HT1.out _).mono ?_
    rintro e v7 ⟨rfl, z7⟩
    have Na := Jfg (Fa.out.on z7)
    have Nn := Jfg (Fn.out.on z7)
    have Nm := Jfg (Fm.out.on z7)
    have Nx := Jfg (Fx.out.on z7)
    have Np := Jfg (Fp.out.on z7)
    have NB := Jfg (bel_tr BW.out z7)
    clear BW z7 Fa Fn Fm Fx Fp
    have Fa := Na
    have Fn := Nn
    have Fm := Nm
    have Fx := Nx
    have Fp := Np
    have BW := NB
    clear NB Na Nn Nm Nx Np
    have Lp := Fp.out.lt
    have cp0 := Fp.out.c0; have cp1 := Fp.out.c1; have cp2 := Fp.out.c2; have cp3 := Fp.out.c3
    obtain ⟨fp0, fp1, fp2, fp3⟩ := Vb Fp.out
    have Ln := Fn.out.lt
    have cn0 := Fn.out.c0; have cn1 := Fn.out.c1; have cn2 := Fn.out.c2; have cn3 := Fn.out.c3
    go_wp2_with fail
    clear Lp cp0 cp1 cp2 cp3 fp0 fp1 fp2 fp3 Ln cn0 cn1 cn2 cn3
    generalize hW8 : ((((v7.setCell ⟨gp, 0, none⟩ (.int .u64 (wd Y 0))).setCell ⟨gp, 1, none⟩ (.int .u64 (wd Y 1))).setCell ⟨gp, 2, none⟩ (.int .u64 (wd Y 2))).setCell ⟨gp, 3, none⟩ (.int .u64 (wd Y 3))) = W8 at *
    have Na := Jb hW8 ((Fa.out).far4 Dap _ _ _ _)
    have Nn := Jb hW8 ((Fn.out).far4 Dnp _ _ _ _)
    have Nm := Jb hW8 ((Fm.out).far4 Dmp _ _ _ _)
    have Nx := Jb hW8 ((Fx.out).far4 Dxp _ _ _ _)
    have Np := Jb hW8 ((Fp.out).put4 _ _ _ _)
    have NB := gr_of hW8 (((((BW.out).setCell Ep _).setCell Ep _).setCell Ep _).setCell Ep _)
    clear hW8 BW Fa Fn Fm Fx Fp
    have Fa := Jfg Na
    have Fn := Jfg Nn
    have Fm := Jfg Nm
    have Fx := Jfg Nx
    have Fp := Jfg Np
    have BW := Jfg NB
    clear NB Na Nn Nm Nx Np
    refine (HCB.out _).mono ?_
    rintro e v9 ⟨rfl, z9⟩
    have Na := Jfg (Fa.out.on z9)
    have Nn := Jfg (Fn.out.on z9)
    have Nm := Jfg (Fm.out.on z9)
    have Nx := Jfg (Fx.out.on z9)
    have Np := Jfg (Fp.out.on z9)
    have NB := Jfg (bel_tr BW.out z9)
    clear BW z9 Fa Fn Fm Fx Fp
    have Fa := Na
    have Fn := Nn
    have Fm := Nm
    have Fx := Nx
    have Fp := Np
    have BW := NB
    clear NB Na Nn Nm Nx Np
    have Lp := Fp.out.lt
    have cp0 := Fp.out.c0; have cp1 := Fp.out.c1; have cp2 := Fp.out.c2; have cp3 := Fp.out.c3
    have La := Fa.out.lt
    have ca0 := Fa.out.c0; have ca1 := Fa.out.c1; have ca2 := Fa.out.c2; have ca3 := Fa.out.c3
    have Lm := Fm.out.lt
    have cm0 := Fm.out.c0; have cm1 := Fm.out.c1; have cm2 := Fm.out.c2; have cm3 := Fm.out.c3
    go_wp2_with fail
    clear Lp cp0 cp1 cp2 cp3 La ca0 ca1 ca2 ca3 Lm cm0 cm1 cm2 cm3
    refine (HT2.out _).mono ?_
    rintro e v10 ⟨rfl, z10⟩
    have Na := Jfg (Fa.out.on z10)
    have Nn := Jfg (Fn.out.on z10)
    have Nm := Jfg (Fm.out.on z10)
    have Nx := Jfg (Fx.out.on z10)
    have Np := Jfg (Fp.out.on z10)
    have NB := Jfg (bel_tr BW.out z10)
    clear BW z10 Fa Fn Fm Fx Fp
    have Fa := Na
    have Fn := Nn
    have Fm := Nm
    have Fx := Nx
    have Fp := Np
    have BW := NB
    clear NB Na Nn Nm Nx Np
    have Lp := Fp.out.lt
    have cp0 := Fp.out.c0; have cp1 := Fp.out.c1; have cp2 := Fp.out.c2; have cp3 := Fp.out.c3
    obtain ⟨fp0, fp1, fp2, fp3⟩ := Vb Fp.out
    go_wp2_with fail
    clear Lp cp0 cp1 cp2 cp3 fp0 fp1 fp2 fp3
    generalize hW11 : ((((v10.setCell ⟨gp, 0, none⟩ (.int .u64 (wd Z 0))).setCell ⟨gp, 1, none⟩ (.int .u64 (wd Z 1))).setCell ⟨gp, 2, none⟩ (.int .u64 (wd Z 2))).setCell ⟨gp, 3, none⟩ (.int .u64 (wd Z 3))) = W11 at *
    have Na := Jb hW11 ((Fa.out).far4 Dap _ _ _ _)
    have Nn := Jb hW11 ((Fn.out).far4 Dnp _ _ _ _)
    have Nm := Jb hW11 ((Fm.out).far4 Dmp _ _ _ _)
    have Nx := Jb hW11 ((Fx.out).far4 Dxp _ _ _ _)
    have Np := Jb hW11 ((Fp.out).put4 _ _ _ _)
    have NB := gr_of hW11 (((((BW.out).setCell Ep _).setCell Ep _).setCell Ep _).setCell Ep _)
    clear hW11 BW Fa Fn Fm Fx Fp
    have Fa := Jfg Na
    have Fn := Jfg Nn
    have Fm := Jfg Nm
    have Fx := Jfg Nx
    have Fp := Jfg Np
    have BW := Jfg NB
    clear NB Na Nn Nm Nx Np
    go_roundw
    case rel =>
     have hrel : Z = A ^ (N / 2 ^ j) % M := by have e := HH.out; rw [HB.out] at e; rw [HZ.out, HE.out, Jdo _ _ _ HA.out, e]
     first
      | exact ⟨j, Z, by omega, by go_num, Fa.out, Fn.out, Fm.out, Fx.out, Fp.out, BW.out, hrel⟩
      | ((repeat apply Exists.intro); exact ⟨⟨j, Z, by omega, by go_num, Fa.out, Fn.out, Fm.out, Fx.out, Fp.out, BW.out, hrel⟩, rfl⟩)
    case measure => (simp [intOf] <;> omega)

theorem Jeg (A N M : Nat) (hM : M < 2 ^ 256) (hN : N < 2 ^ 256) (h1 : 1 < M) (hA : A < M) : ∀ w, Calls Tryz.prog 20 #[num A, num N, num M] w fun e w' => e = .returned (.tuple #[num (A ^ N % M), .int .i64 0]) ∧ Below w.heap.size w w' := fun w => by
 have MY := Jdp A A M (by omega) (by omega) hM
 rw [show decide (1 < M ∧ A < M ∧ A < M) = true from decide_eq_true ⟨h1, hA, hA⟩] at MY
 have W := Xf M hM
 by_cases hm : M < 18446744073709551616
 ·rw [show decide (M < 18446744073709551616) = true from decide_eq_true hm] at W
  have hV : A ^ N % M < M := Nat.mod_lt _ (by omega)
  exact re_w A N M (A ^ N % M) MY W (fun w => by rw [Jdn A (by omega), Jdn M hm]; exact wordp_any A N M _ hA h1 hm hN rfl w) (Vt _ (by omega)) w
 ·rw [show decide (M < 18446744073709551616) = false from decide_eq_false hm] at W
  exact re_l A N M _ hA h1 hM hN rfl MY W (fun x y hx hy => rt_any x y M hx hy hM h1) w
end Go.Proofs.YtodlpmepoakdlaaGreat
