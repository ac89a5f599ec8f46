/-
  HashesHalves: a number's halves are the hashes of the parts with one more.
-/
import Derived.Test.YtkmjfaaelkmnkaaDoorMAlive6
import Derived.Test.YtkmjfaaelkmnkaaDoorMLawHOf
import Derived.Test.YtkmjfaaelkmnkaaDoorMNuShiftN
namespace Go.Proofs.YtkmjfaaelkmnkaaDoor
open Go.RowKit
set_option linter.unusedSimpArgs false
set_option linter.unusedVariables false
set_option maxRecDepth 100000

theorem sh_one (x : Nat) (hx : x < 256) : Nu.shN 1 (x : Int) = 2 ^ x := by
  rw [Nu.shN_left 1 x hx, Nat.one_mul]
  exact Nat.mod_eq_of_lt (Nat.pow_lt_pow_right (by decide) hx)
theorem err_pow (x : Nat) (hx : x < 256) : errOf (Nu.shN 1 (x : Int)) = 0 := by
  rw [sh_one x hx]
  exact if_neg (Nat.pos_iff_ne_zero.1 (Nat.pow_pos (by decide)))
theorem halves_num (M x lo : Nat) (s : ByteArray) (n : Nat) (RB : Nat → List Nat) (h0 : x ≠ 0) (hx : x < 256) (hM : Nu.shN 1 (x : Int) = M) (hlo : half s n RB 1 = lo) (hlt : lo < 2 ^ 256) :
    Nu.shN (Nu.shN lo (256 - (x : Int))) ((x : Int) - 256) = numOf M s n RB := by
  rw [sh_one x hx] at hM
  have hk : (256 : Int) - (x : Int) = ((256 - x : Nat) : Int) := by omega
  have hk2 : (x : Int) - 256 = -((256 - x : Nat) : Int) := by omega
  rw [hk, hk2, Nu.shN_left lo (256 - x) (by omega), Nu.shN_right _ (256 - x) (by omega)]
  have hp : (2 : Nat) ^ 256 = 2 ^ x * 2 ^ (256 - x) := by rw [← Nat.pow_add]; congr 1; omega
  have e1 : lo * 2 ^ (256 - x) % 2 ^ 256 = lo % 2 ^ x * 2 ^ (256 - x) := by rw [hp, Nat.mul_mod_mul_right]
  rw [e1, Nat.mul_div_cancel _ (Nat.pow_pos (by decide))]
  have hM0 : M ≠ 0 := by rw [← hM]; exact Nat.pos_iff_ne_zero.1 (Nat.pow_pos (by decide))
  unfold numOf
  rw [if_neg hM0]
  unfold twoN Nu.wide
  rw [hlo, ← hM, hp, ← Nat.mul_assoc, Nat.mul_right_comm, Nat.mul_add_mod_self_right]

set_option maxHeartbeats 4000000 in
theorem hashesHalves_walk (s : ByteArray) (A : Option Addr) (n c : Nat) (RA : Nat → Option Addr) (RL RC : Nat → Nat) (RB : Nat → List Nat) (x : Nat) (w : World) (hs : s.size ≤ 9223372036854775807) (hn0 : n ≤ 9223372036854775807) (hx8 : x < 256)
    (hnil : A = none → n = 0 ∧ c = 0) (hR : Rows2 w A n c RA RL RC RB) (T : Tabs w) :
    Calls Tryd.prog 7 #[.string s, .slice A n c, .int .u8 (x : Nat)] w fun e w' => e = .returned (.bool true) ∧ Below w.heap.size w w' := by
  obtain ⟨i0, hi, hz0, hz1, hz2⟩ := info_parts infoS
  have HR := Lib.hid hR
  have HT := Lib.hid T
  have HN := Lib.hid hnil
  have HG := Lib.hid (fun w (h : Rows2 w A n c RA RL RC RB) => great_ok s A n c RA RL RC RB w hs hn0 h)
  clear hR T hnil
  obtain ⟨b0, hb0⟩ : ∃ b, grt s.size n RL = b := ⟨_, rfl⟩
  rw [hb0] at HG
  have HB0 := Lib.hid hb0
  clear hb0
  go_enter Tryd.func7, Tryd.ntmps7
  go_wp2_with fail
  refine (Sf.alive6_ok w HT.out).mono ?_
  rintro e w2 ⟨rfl, b2⟩
  have B2 := Lib.hid b2
  have R2 := Lib.hid (HR.out.below b2)
  have T2 := Lib.hid (HT.out.on b2)
  clear b2 HR HT
  go_wp2_with fail
  refine (HG.out _ R2.out).mono ?_
  rintro e w3 ⟨rfl, rfl⟩
  cases b0 with
  | true =>
    go_wp2_with fail
    refine (Sf.alive6_ok _ T2.out).mono ?_
    rintro e wx ⟨rfl, bx⟩
    have BX := Lib.hid (bel_tr B2.out bx)
    clear bx
    go_wp2
    go_ret
    exact ⟨rfl, BX.out⟩
  | false =>
    by_cases hx : x = 0
    · subst hx
      go_wp2_with fail
      refine (Sf.alive6_ok _ T2.out).mono ?_
      rintro e wx ⟨rfl, bx⟩
      have BX := Lib.hid (bel_tr B2.out bx)
      clear bx
      go_wp2
      go_ret
      exact ⟨rfl, BX.out⟩
    · skip
      obtain ⟨hs5, hn2, ht2⟩ := grt_no HB0.out
      have HL := Lib.hid (fun j (hj : j < n) => (show RL j ≤ 20000 by have := tot_at RL n j hj; omega))
      clear HB0 ht2 HG
      have hx0 : ((x : Int) == 0) = false := by simp; omega
      have hx1 : decide ((x : Int) = 0) = false := by simp; omega
      have Rw2 := R2
      have Bw2 := B2
      go_wp2_with (first | (at_builtin; refine wpList_append_rd _ rfl (.const (.slice none 0 0)) (.tmp 26) 34 rfl w2.heap.size 22 i0 (.slice none 0 0) 24 Tryd.underlying34 hi hz0 hz1 hz2 rfl (.slice none 0 0) 0 [] rfl (World.ownsRow_nil _ _ _ _) A n c (heads RA RL RC n) rfl HN.out Rw2.out.heads (heads_one _ _ _ _) (by unfold maxLen; omega) (by omega) (Nat.le_refl _) ?_; intro va5 wa5 hown5 hgrow5; rw [Nat.zero_add, List.nil_append] at hown5; have Oa5 := Lib.hid hown5; have Ga5 := Lib.hid hgrow5; clear hown5 hgrow5) | (refine law_bldB (d := 28) 1 ?_; intro wa6 N6; have Ha6 := Lib.hid N6; clear N6) | (refine law_bldR (d := 29) (some ⟨wa5.heap.size, 0, none⟩) 1 1 rfl ?_; intro wa7 N7; have Ha7 := Lib.hid N7; clear N7) | (at_builtin; refine wpList_append_rd _ rfl (.tmp 27) (.tmp 29) 34 rfl w2.heap.size 22 i0 (.slice none 0 0) 24 Tryd.underlying34 hi hz0 hz1 hz2 rfl va5 n (heads RA RL RC n) rfl (own_on (own_on Oa5.out Ha6.out.bel (Nat.le_refl _)) Ha7.out.bel (Nat.le_refl _)) (some ⟨wa6.heap.size, 0, none⟩) 1 1 [.slice (some ⟨wa5.heap.size, 0, none⟩) 1 1] rfl (fun e => by cases e) (at_rd Ha7.out.at_ rfl) (by intro v hv; simp at hv; rw [hv]; rfl) (by unfold maxLen; omega) (by omega) (by have := Ga5.out.size; have := Ha6.out.size; have := Ha7.out.size; omega) ?_; intro va8 wa8 hown8 hgrow8; have Oa8 := Lib.hid hown8; have Ga8 := Lib.hid hgrow8; clear hown8 hgrow8))
      clear hx0 hx1
      have Ka8 : Hid (Below w2.heap.size w2 wa8) := Lib.hid (by
        have k5 : Below w2.heap.size w2 wa5 := (Below.refl _ _).grown Ga5.out (Nat.le_refl _) (fun k e => by cases e)
        have k7 := bel_tr (bel_tr k5 Ha6.out.bel) Ha7.out.bel
        exact k7.grown Ga8.out k7.size (own_ge Oa5.out))
      have Xa8 : Hid (Rd wa8 (some ⟨wa5.heap.size, 0, none⟩) 1 (bs [1])) := Lib.hid (at_rd (grownR (Ha6.out.at_.on Ha7.out.bel) Ga8.out (fun e => by have := own_lt Oa5.out _ e; omega)) rfl)
      have Ba8 := Lib.hid (bel_tr B2.out Ka8.out)
      obtain ⟨Aa8, ca8, rfl, k1, k2⟩ := own_form Oa8.out
      have Ra8 := Lib.hid (rows_ext (Rd.own Oa8.out) k1 (by unfold maxLen at k2; omega) (Rw2.out.below Ka8.out) Xa8.out (by decide))
      have Na8 : Hid (Aa8 = none → n + 1 = 0 ∧ ca8 = 0) := Lib.hid (own_nilS Oa8.out)
      clear k1 k2 Oa5 Ga5 Ha6 Ha7 Oa8 Ga8 Xa8
      have Ta8 := Lib.hid (T2.out.on Ka8.out)
      have Rn8 := Lib.hid (R2.out.below Ka8.out)
      clear Rw2 Bw2 R2 B2 T2
      have HO := Lib.hid (hof_ok s _ (n + 1) _ _ _ _ _ wa8 (by omega) (by omega) (fun j hj => by
        by_cases e : j = n
        · rw [e, onem_at]; omega
        · rw [onem_lt _ _ _ (by omega)]; have := HL.out j (by omega); omega) Ra8.out Ta8.out)
      obtain ⟨xs, hxs⟩ : ∃ y, sha (hbs (sb s) (n + 1) (onem RB n [1])) = y := ⟨_, rfl⟩
      rw [hxs] at HO
      have HV : Hid (half s n RB 1 = val xs) := Lib.hid (by rw [← hxs]; rfl)
      have HSL : Hid (xs.length = 32) := Lib.hid (by rw [← hxs]; exact sha_len _)
      have HSB : Hid (∀ y ∈ xs, y < 256) := Lib.hid (by rw [← hxs]; exact sha_lt _)
      clear hxs
      refine HO.out.mono ?_
      rintro e w9 ⟨rfl, b9⟩
      have B9 := Lib.hid (bel_tr Ba8.out b9)
      have T9 := Lib.hid (Ta8.out.on b9)
      have R9 := Lib.hid (Rn8.out.below b9)
      clear b9 HO Ba8 Ta8 Rn8 Ra8 Na8 Ka8
      go_wp2_with (first | (refine law_alloc (d := 8) (ty := 28) _ zero_hash ?_; intro w10 N1; have H10 := Lib.hid N1; clear N1) | (refine law_store (ty := 28) w9.heap.size 0 _ (bs (List.replicate 32 0)).toArray (bs xs) rfl rfl H10.out.at_ (by simp [bs, HSL.out]) (by rw [size_hash, bs_len, HSL.out]) (bs_one _) ?_; intro w11 P2; have b2 := H10.out.put P2; have E11 := Lib.hid (Put.hash xs HSL.out P2); have B11 := Lib.hid (bel_tr B9.out b2); have T11 := Lib.hid (T9.out.on b2); have R11 := Lib.hid (R9.out.below b2); clear b2 P2 H10 B9 T9 R9))
      generalize w9.heap.size = g8 at *
      have HGL := Lib.hid (getLong_ok (some ⟨g8, 0, none⟩) 32 32 xs w11 (by omega) (by omega) (by omega) (at_bytes E11.out rfl HSL.out) HSB.out)
      rw [num_val xs HSL.out HSB.out, ← HV.out] at HGL
      refine HGL.out.mono ?_
      rintro e w12 ⟨rfl, b12⟩
      have B12 := Lib.hid (bel_tr B11.out b12)
      have T12 := Lib.hid (T11.out.on b12)
      have R12 := Lib.hid (R11.out.below b12)
      have HLT := Lib.hid (half_lt s n RB 1)
      clear b12 HGL B11 T11 R11 E11 HV HSL HSB
      obtain ⟨lo, hlo⟩ : ∃ y, half s n RB 1 = y := ⟨_, rfl⟩
      have HLO := Lib.hid hlo
      rw [hlo] at HLT ⊢
      clear hlo
      go_wp2_with (first | (refine law_alloc (d := 9) (ty := 37) _ zero_num ?_; intro w13 N1; have H13 := Lib.hid N1; clear N1) | (refine law_store (ty := 37) w12.heap.size 0 _ (nv 0).toArray (nv lo) rfl rfl H13.out.at_ (Nat.le_refl _) size_num (nv_one lo) ?_; intro w14 P2; have b2 := H13.out.put P2; have E14 := Lib.hid (Put.num P2); have B14 := Lib.hid (bel_tr B12.out b2); have T14 := Lib.hid (T12.out.on b2); have R14 := Lib.hid (R12.out.below b2); clear b2 P2 H13 B12 T12 R12))
      generalize w12.heap.size = g9 at *
      refine (Nu.of1N _).mono ?_
      rintro e w15 ⟨rfl, b15⟩
      have E15 := Lib.hid (E14.out.on b15)
      have B15 := Lib.hid (bel_tr B14.out b15)
      have T15 := Lib.hid (T14.out.on b15)
      have R15 := Lib.hid (R14.out.below b15)
      clear b15 E14 B14 T14 R14
      go_wp2_with fail
      refine (Nu.shift_any 1 (by decide) (x : Int) (by omega) (by omega) _).mono ?_
      rintro e w16 ⟨rfl, b16⟩
      have E16 := Lib.hid (E15.out.on b16)
      have B16 := Lib.hid (bel_tr B15.out b16)
      have T16 := Lib.hid (T15.out.on b16)
      have R16 := Lib.hid (R15.out.below b16)
      clear b16 E15 B15 T15 R15
      have HM := Lib.hid (Nu.sh_lt 1 (by decide) (x : Int))
      obtain ⟨M, hM⟩ : ∃ y, Nu.shN 1 (x : Int) = y := ⟨_, rfl⟩
      rw [hM] at HM ⊢
      have HMM := Lib.hid hM
      clear hM
      go_wp2_with fail
      refine (number_ok M HM.out s A n c RA RL RC RB w16 (by omega) (by omega) (fun j hj => by have := HL.out j hj; omega) HN.out R16.out T16.out).mono ?_
      rintro e w17 ⟨rfl, b17⟩
      have E17 := Lib.hid (E16.out.on b17)
      have B17 := Lib.hid (bel_tr B16.out b17)
      clear b17 E16 B16 T16 R16
      have HF := Lib.hid (halves_num M x lo s n RB hx (by omega) HMM.out HLO.out HLT.out)
      have HE : Hid (errOf M = 0) := Lib.hid (by rw [← HMM.out]; exact err_pow x (by omega))
      rw [HE.out]
      obtain ⟨r, hr⟩ : ∃ y, numOf M s n RB = y := ⟨_, rfl⟩
      rw [hr] at HF ⊢
      clear hr HE
      go_wp2_with (first | (refine law_alloc (d := 11) (ty := 37) _ zero_num ?_; intro w18 N1; have H18 := Lib.hid N1; clear N1) | (refine law_store (ty := 37) w17.heap.size 0 _ (nv 0).toArray (nv r) rfl rfl H18.out.at_ (Nat.le_refl _) size_num (nv_one r) ?_; intro w19 P2; have b2 := H18.out.put P2; have F19 := Lib.hid (Put.num P2); have E19 := Lib.hid (E17.out.on b2); have B19 := Lib.hid (bel_tr B17.out b2); obtain ⟨c0, c1, c2, c3⟩ := at_num (E17.out.on b2); clear b2 P2 H18 E17 B17))
      clear c0 c1 c2 c3
      generalize w17.heap.size = g11 at *
      refine (Nu.shift_any lo HLT.out (256 - (x : Int)) (by omega) (by omega) _).mono ?_
      rintro e w20 ⟨rfl, b20⟩
      have F20 := Lib.hid (F19.out.on b20)
      have B20 := Lib.hid (bel_tr B19.out b20)
      clear b20 F19 B19 E19
      have HS1 := Lib.hid (Nu.sh_lt lo HLT.out (256 - (x : Int)))
      obtain ⟨p, hp⟩ : ∃ y, Nu.shN lo (256 - (x : Int)) = y := ⟨_, rfl⟩
      rw [hp] at HS1 HF ⊢
      clear hp
      go_wp2_with fail
      refine (Nu.shift_any p HS1.out ((x : Int) - 256) (by omega) (by omega) _).mono ?_
      rintro e w21 ⟨rfl, b21⟩
      have F21 := Lib.hid (F20.out.on b21)
      have B21 := Lib.hid (bel_tr B20.out b21)
      clear b21 F20 B20
      rw [HF.out]
      have EN := Nu.eqY r
      go_wp2_with (first | (refine law_alloc (d := 13) (ty := 37) _ zero_num ?_; intro w22 N1; have H22 := Lib.hid N1; clear N1) | (refine law_store (ty := 37) w21.heap.size 0 _ (nv 0).toArray (nv r) rfl rfl H22.out.at_ (Nat.le_refl _) size_num (nv_one r) ?_; intro w23 P2; have b2 := H22.out.put P2; have B23 := Lib.hid (bel_tr B21.out b2); obtain ⟨c0, c1, c2, c3⟩ := at_num (Put.num P2); obtain ⟨d0, d1, d2, d3⟩ := at_num (F21.out.on b2); clear b2 P2 H22 F21 B21) | simp only [EN])
      go_ret
      exact ⟨rfl, B23.out⟩
end Go.Proofs.YtkmjfaaelkmnkaaDoor
