/-
  What a twin of a list of parts still is (LeftRecords); what is too great to be gone through (great).
-/
import Derived.Deep.QuietTactic
import Derived.BigQuiet
import Derived.Test.YtkmjfaaelkmnkaaDoorMNuShiftN
import Derived.Test.YtkmjfaaelkmnkaaDoorMRNum
import Derived.Test.YtkmjfaaelkmnkaaDoorMTwr
namespace Go.Proofs.YtkmjfaaelkmnkaaDoor
open Go.RowKit
set_option linter.unusedSimpArgs false
set_option linter.unusedVariables false
set_option maxRecDepth 100000

theorem left_q (A : Option Addr) (n c g : Nat) (l : List Nat) (w : World) (hn : n ≤ 4194304) (hr : Rd w A n (bs l)) (ht : Twin w g l) :
    Calls Tryd.prog 46 #[.slice (some ⟨g, 0, none⟩) n (n + 1), .slice A n c] w fun e w' => e = .returned (.bool true) ∧ ∃ q, w' = w.drewN q := by
  have hln : l.length = n := by have := hr.1; rwa [bs_len] at this
  have hT := ht.rd
  have h77 := ht.last
  rw [hln] at hT h77
  have HL := Lib.hid hln
  clear hln ht
  go_enter Tryd.func46, Tryd.ntmps46
  go_wp2
  go_loopw [5] (fun s wr => ∃ k q : Nat, k ≤ n ∧ s = .int .i64 k ∧ wr = w.drewN q) (fun s _ => n - (intOf s).toNat)
  case atStart => exact ⟨0, 0, Nat.zero_le _, rfl, rfl⟩
  case round =>
    obtain ⟨k, q, hk, rfl, rfl⟩ := hrel
    by_cases hlt : k < n
    · obtain ⟨b, off, rfl, hbs, hcell⟩ := hr.spot hlt
      obtain ⟨b', off', e', hbs', hcell'⟩ := hT.spot hlt
      injection e' with e'
      injection e' with e1 e2
      subst e1 e2
      have h1 : w.cell? ⟨b, off + k, none⟩ = some (.int .u8 (l.getD k 0 : Nat)) := hcell k _ (bs_at l k (by have := HL.out; omega))
      have h2 : w.cell? ⟨g, k, none⟩ = some (.int .u8 (l.getD k 0 : Nat)) := by have := hcell' k _ (bs_at l k (by have := HL.out; omega)); rwa [Nat.zero_add] at this
      have hi1 : (k : Int) < (n : Int) := by omega
      clear hcell hcell' hr hT
      go_wp2
      go_quiet (fail)
      go_wp2
      go_roundw
      case rel => exact ⟨k + 1, q + nq, by omega, by go_num, rfl⟩
      case measure => simp [intOf]; omega
    · obtain rfl : k = n := by omega
      have hi1 : (k : Int) + 1 ≤ ((k + 1 : Nat) : Int) := by omega
      go_wp2
      go_ret
      exact ⟨rfl, q, rfl⟩

set_option maxHeartbeats 1000000 in
theorem lfr_ok (g : Nat) (A : Option Addr) (n c : Nat) (RG : Nat → Nat) (RA : Nat → Option Addr) (RL RC : Nat → Nat) (RB : Nat → List Nat) (gs : Nat) (w : World) (hn : n ≤ 1000000) (hL : ∀ j, j < n → RL j ≤ 1000000) (hT : TwinR w g n RG RL RB gs) (hR : Rows2 w A n c RA RL RC RB) :
    Calls Tryd.prog 19 #[.slice (some ⟨g, 0, none⟩) n (n + 1), .slice A n c] w fun e w' => e = .returned (.bool true) ∧ Below w.heap.size w w' := by
  have HT := Lib.hid hT
  have HR := Lib.hid hR
  have HL := Lib.hid hL
  clear hT hR hL
  have hc1 : n < n + 1 := by omega
  go_enter Tryd.func19, Tryd.ntmps19
  go_wp2
  go_loopw [5] (fun s wr => ∃ k q : Nat, k ≤ n ∧ s = .int .i64 k ∧ wr = w.drewN q) (fun s _ => n - (intOf s).toNat)
  case atStart => exact ⟨0, 0, Nat.zero_le _, rfl, rfl⟩
  case round =>
    obtain ⟨k, q, hk, rfl, rfl⟩ := hrel
    by_cases hlt : k < n
    · have hi1 : (k : Int) < (n : Int) := by omega
      obtain ⟨b, o, rfl, hbl, hcell⟩ := HR.out.cell k hlt
      have hcell2 : w.cell? ⟨g, k, none⟩ = some (.slice (some ⟨RG k, 0, none⟩) (RL k) (RL k + 1)) := by
        rw [HT.out.row.cell, List.getElem?_toArray, List.getElem?_append_left (by rw [theads, heads_len]; exact hlt)]
        exact heads_at _ _ _ _ _ hlt
      have hrl := HL.out k hlt
      have HC := Lib.hid (fun p => (left_q (RA k) (RL k) (RC k) (RG k) (RB k) (w.drewN (q + p)) (by omega) ((HR.out.rd k hlt).drewN _) (At.drewN (HT.out.twin k hlt) _)).mono (R' := fun e w' => e = .returned (.bool true) ∧ ∃ m, w' = w.drewN (q + m)) fun e w' ⟨he, m, hm⟩ => ⟨he, p + m, by rw [hm, World.drewN_drewN, Nat.add_assoc]⟩)
      generalize RA k = ra at *
      generalize RL k = rl at *
      generalize RC k = rc at *
      generalize RG k = rg at *
      go_wp2
      go_quiet ((go_at_call 46; exact HC.out _))
      go_wp2
      go_roundw
      case rel => exact ⟨k + 1, q + nq, by omega, by go_num, by first | rfl | trivial⟩
      case measure => simp [intOf]; omega
    · obtain rfl : k = n := by omega
      have hi1 : ¬ (k : Int) < (k : Int) := by omega
      have hi2 : (k : Int) + 1 ≤ ((k + 1 : Nat) : Int) := by omega
      have hcell2 : w.cell? ⟨g, k, none⟩ = some (.slice (some ⟨gs, 0, none⟩) 1 1) := by
        rw [HT.out.row.cell, List.getElem?_toArray, List.getElem?_append_right (by rw [theads, heads_len]; exact Nat.le_refl _), theads, heads_len, Nat.sub_self]; rfl
      obtain ⟨b', o', e', hb', hc77⟩ := HT.out.last.2 (by omega)
      injection e' with e'
      injection e' with e1 e2
      subst e1
      subst e2
      have h77 : w.cell? ⟨gs, 0, none⟩ = some (.int .u8 77) := hc77 0 _ rfl
      clear hc77
      go_wp2
      go_ret
      exact ⟨rfl, below_drewN (Below.refl _ _) q⟩

theorem rsize2_ok (A : Option Addr) (n c : Nat) (RA : Nat → Option Addr) (RL RC : Nat → Nat) (RB : Nat → List Nat) (w : World) (hn : n ≤ 200) (hR : Rows2 w A n c RA RL RC RB) :
    Calls Tryd.prog 35 #[.slice A n c] w fun e w' => (∃ s : Nat, e = .returned (.int .i64 (s : Nat)) ∧ s ≤ 140737490000000 ∧ (s ≤ 1048576 → s = n + tot RL n) ∧ s ≤ n + tot RL n) ∧ w = w' := by
  have HR := Lib.hid hR
  clear hR
  go_enter Tryd.func35, Tryd.ntmps35
  go_wp2
  go_loopw [3, 4] (fun sv s' wr => ∃ k s : Nat, k ≤ n ∧ s' = .int .i64 k ∧ sv = .int .i64 s ∧ s = n + tot RL k ∧ s ≤ 140737490000000 ∧ wr = w) (fun _ s' _ => n - (intOf s').toNat)
  case atStart => exact ⟨0, n, by omega, rfl, rfl, rfl, by omega, rfl⟩
  case round =>
    obtain ⟨k, s, hk, rfl, rfl, hs, hsm, rfl⟩ := hrel
    have HS := Lib.hid hs
    clear hs
    by_cases hlt : k < n
    · have hlt' : (k : Int) < (n : Int) := by omega
      by_cases hsz : s ≤ 1048576
      · have hsz' : (s : Int) ≤ 1048576 := by omega
        obtain ⟨b, o, rfl, hbl, hcell⟩ := HR.out.cell k hlt
        have C := Lib.hid (bsize_ok (RA k) (RL k) (RC k) wr (HR.out.rnc k hlt).2.2)
        have hrl := (HR.out.rnc k hlt).2.2
        have HS2 : Hid (s + RL k = n + tot RL (k + 1)) := Lib.hid (by rw [tot, HS.out]; omega)
        generalize RA k = ra at *
        generalize RL k = rl at *
        generalize RC k = rc at *
        go_wp2_with (go_at_call 54; refine C.out.mono ?_; rintro e w' ⟨rfl, rfl⟩)
        go_roundw
        case rel => exact ⟨k + 1, s + rl, by omega, by go_num, by go_num, HS2.out, by omega, by first | rfl | trivial⟩
        case measure => simp [intOf]; omega
      · have hsz' : ¬ (s : Int) ≤ 1048576 := by omega
        go_wp2
        go_ret
        exact ⟨⟨s, rfl, hsm, fun h => absurd h hsz, by have := HS.out; have := tot_le RL hk; omega⟩, rfl⟩
    · obtain rfl : k = n := by omega
      have hlt' : ¬ (k : Int) < (k : Int) := by omega
      go_wp2
      go_ret
      exact ⟨⟨s, rfl, hsm, fun h => HS.out, by have := HS.out; omega⟩, rfl⟩
/-- what is too great -/
def grt (m n : Nat) (RL : Nat → Nat) : Bool := decide (5000 < m ∨ 200 < n ∨ 20000 < n + tot RL n)
theorem grt_no {m n : Nat} {RL : Nat → Nat} (h : grt m n RL = false) : m ≤ 5000 ∧ n ≤ 200 ∧ n + tot RL n ≤ 20000 := by
  have := of_decide_eq_false h
  omega
theorem great_ok (s : ByteArray) (A : Option Addr) (n c : Nat) (RA : Nat → Option Addr) (RL RC : Nat → Nat) (RB : Nat → List Nat) (w : World) (hs : s.size ≤ 9223372036854775807) (hn : n ≤ 9223372036854775807) (hR : Rows2 w A n c RA RL RC RB) :
    Calls Tryd.prog 13 #[.string s, .slice A n c] w fun e w' => e = .returned (.bool (grt s.size n RL)) ∧ w = w' := by
  obtain ⟨b, hb⟩ : ∃ b, grt s.size n RL = b := ⟨_, rfl⟩
  have HB := Lib.hid hb
  rw [hb]
  clear hb
  have HR := Lib.hid hR
  clear hR
  obtain ⟨m, hm⟩ : ∃ m, s.size = m := ⟨_, rfl⟩
  have HM := Lib.hid hm
  rw [hm] at hs
  clear hm
  by_cases h1 : 5000 < m
  · have h1' : (5000 : Int) < (s.size : Int) := by rw [HM.out]; omega
    have HB2 : Hid (b = true) := Lib.hid (by rw [← HB.out, HM.out]; exact decide_eq_true (by omega))
    go_enter Tryd.func13, Tryd.ntmps13
    go_wp2
    go_ret
    exact ⟨by rw [HB2.out]; rfl, rfl⟩
  · have h1' : ¬ (5000 : Int) < (s.size : Int) := by rw [HM.out]; omega
    by_cases h2 : 200 < n
    · have h2' : (200 : Int) < (n : Int) := by omega
      have HB2 : Hid (b = true) := Lib.hid (by rw [← HB.out, HM.out]; exact decide_eq_true (by omega))
      go_enter Tryd.func13, Tryd.ntmps13
      go_wp2
      go_ret
      exact ⟨by rw [HB2.out]; rfl, rfl⟩
    · have h2' : ¬ (200 : Int) < (n : Int) := by omega
      have HC := Lib.hid (rsize2_ok A n c RA RL RC RB w (by omega) HR.out)
      go_enter Tryd.func13, Tryd.ntmps13
      go_wp2_with fail
      refine HC.out.mono ?_
      rintro e w' ⟨⟨t, rfl, ht1, ht2, ht3⟩, rfl⟩
      have HB2 : Hid (b = decide (20000 < t)) := Lib.hid (by
        rw [← HB.out, HM.out]
        unfold grt
        rw [decide_eq_decide]
        constructor
        · intro h
          by_cases h5 : t ≤ 1048576
          · have := ht2 h5; omega
          · omega
        · intro h; omega)
      clear ht2 ht3
      by_cases h3 : 20000 < t
      · have h3' : (20000 : Int) < (t : Int) := by omega
        go_wp2
        go_ret
        exact ⟨by rw [HB2.out, decide_eq_true h3]; rfl, rfl⟩
      · have hd : decide ((20000 : Int) < (t : Int)) = false := decide_eq_false (by omega)
        go_wp2
        go_ret
        exact ⟨by rw [HB2.out, decide_eq_false h3]; rfl, rfl⟩
end Go.Proofs.YtkmjfaaelkmnkaaDoor

/-
  The document's own Number (balefireref06): what it answers.
-/
namespace Go.Proofs.YtkmjfaaelkmnkaaDoor
open Go.RowKit
set_option linter.unusedSimpArgs false
set_option linter.unusedVariables false
set_option maxRecDepth 100000

theorem Put.num {w w' : World} {g X Y : Nat} (p : Put w w' g 37 (put (nv Y).toArray 0 (nv X))) : At w' g 37 (nv X).toArray := by
  have := p.at_
  rwa [put_all (nv Y) (nv X) rfl] at this

set_option maxHeartbeats 4000000 in
theorem rnumber_ok (M : Nat) (hM : M < 2 ^ 256) (s : ByteArray) (A : Option Addr) (n c : Nat) (RA : Nat → Option Addr) (RL RC : Nat → Nat) (RB : Nat → List Nat) (w : World) (hs : s.size ≤ 5000) (hn : n ≤ 4000) (hT : (cat (fun j => putB (RB j)) n).length ≤ 900000)
    (hnil : A = none → n = 0 ∧ c = 0) (hR : Rows2 w A n c RA RL RC RB) :
    Calls Tryd.prog 16 #[Nu.num M, .string s, .slice A n c] w fun e w' => e = .returned (.tuple #[Nu.num (numOf M s n RB), .int .i64 (errOf M)]) ∧ Below w.heap.size w w' := by
  obtain ⟨i0, hi, hz0, hz1, hz2⟩ := info_parts infoS
  have HR := Lib.hid hR
  have HN := Lib.hid hnil
  have HT0 := Lib.hid (show (cat (fun j => putB (onem RB n [0] j)) (n + 1)).length ≤ 1000000 by rw [cat_onem]; omega)
  have HT1 := Lib.hid (show (cat (fun j => putB (onem RB n [1] j)) (n + 1)).length ≤ 1000000 by rw [cat_onem]; omega)
  have EQ := Nu.eqZ M hM
  have HWD := Lib.hid (rwide_all M hM s n RB)
  clear hR hnil hT
  by_cases h0 : M = 0
  · rw [show numOf M s n RB = 0 from if_pos h0, show errOf M = 1 from if_pos h0]
    rw [decide_eq_true h0] at EQ
    clear h0 HT0 HT1 HWD
    go_enter Tryd.func16, Tryd.ntmps16
    go_wp2_with (first | (refine law_box (d := 3) (ty := 37) (nv M).toArray rfl ?_; intro w1 N1; have H1 := Lib.hid N1; obtain ⟨c0, c1, c2, c3⟩ := at_num N1.at_; clear N1) | (refine law_alloc (d := 6) (ty := 37) _ zero_num ?_; intro w2 N2; have H2 := Lib.hid N2; obtain ⟨c0, c1, c2, c3⟩ := at_num (H1.out.at_.on N2.bel); clear N2) | (refine law_store (ty := 37) w1.heap.size 0 _ (nv 0).toArray (nv 0) rfl rfl H2.out.at_ (Nat.le_refl _) size_num (nv_one 0) ?_; intro w3 P3; have H3 := Lib.hid P3; obtain ⟨d0, d1, d2, d3⟩ := at_num (X := 0) (by have := P3.at_; rw [put_all (nv 0) (nv 0) rfl] at this; exact this); clear P3) | simp only [EQ])
    have hz := H1.out.size
    have b2 := bel_tr H1.out.bel H2.out.bel
    refine bodyPost_ret (v := .tuple #[Nu.num 0, .int .i64 1]) (by simp [results, Tryd.results16, go_sem, d0, d1, d2, d3]) rfl ⟨rfl, b2.grown H3.out.grown b2.size (by simp; omega)⟩
  · rw [decide_eq_false h0] at EQ
    clear h0
    go_enter Tryd.func16, Tryd.ntmps16
    go_wp2_with (first | (refine law_box (d := 3) (ty := 37) (nv M).toArray rfl ?_; intro w1 N1; have H1 := Lib.hid N1; clear N1) | (refine law_alloc (d := 6) (ty := 37) _ zero_num ?_; intro w2 N2; have H2 := Lib.hid N2; obtain ⟨c0, c1, c2, c3⟩ := at_num (H1.out.at_.on N2.bel); have Bw2 := Lib.hid (bel_tr H1.out.bel N2.bel); have Rw2 := Lib.hid (HR.out.below Bw2.out); clear N2) | simp only [EQ] | (at_builtin; refine wpList_append_rd _ rfl (.const (.slice none 0 0)) (.tmp 19) 34 rfl w2.heap.size 22 i0 (.slice none 0 0) 24 Tryd.underlying34 hi hz0 hz1 hz2 rfl (.slice none 0 0) 0 [] rfl (World.ownsRow_nil _ _ _ _) A n c (heads RA RL RC n) rfl HN.out Rw2.out.heads (heads_one _ _ _ _) (by unfold maxLen; omega) (by omega) (Nat.le_refl _) ?_; intro va5 wa5 hown5 hgrow5; rw [Nat.zero_add, List.nil_append] at hown5; have Oa5 := Lib.hid hown5; have Ga5 := Lib.hid hgrow5; clear hown5 hgrow5) | (refine law_bldB (d := 21) 0 ?_; intro wa6 N6; have Ha6 := Lib.hid N6; clear N6) | (refine law_bldR (d := 22) (some ⟨wa5.heap.size, 0, none⟩) 1 1 rfl ?_; intro wa7 N7; have Ha7 := Lib.hid N7; clear N7) | (at_builtin; refine wpList_append_rd _ rfl (.tmp 20) (.tmp 22) 34 rfl w2.heap.size 22 i0 (.slice none 0 0) 24 Tryd.underlying34 hi hz0 hz1 hz2 rfl va5 n (heads RA RL RC n) rfl (own_on (own_on Oa5.out Ha6.out.bel (Nat.le_refl _)) Ha7.out.bel (Nat.le_refl _)) (some ⟨wa6.heap.size, 0, none⟩) 1 1 [.slice (some ⟨wa5.heap.size, 0, none⟩) 1 1] rfl (fun e => by cases e) (at_rd Ha7.out.at_ rfl) (by intro v hv; simp at hv; rw [hv]; rfl) (by unfold maxLen; omega) (by omega) (by have := Ga5.out.size; have := Ha6.out.size; have := Ha7.out.size; omega) ?_; intro va8 wa8 hown8 hgrow8; have Oa8 := Lib.hid hown8; have Ga8 := Lib.hid hgrow8; clear hown8 hgrow8))
    clear EQ c0 c1 c2 c3
    have Ka8 : Hid (Below w2.heap.size w2 wa8) := Lib.hid (by
      have k5 : Below w2.heap.size w2 wa5 := (Below.refl _ _).grown Ga5.out (Nat.le_refl _) (fun k e => by cases e)
      have k7 := bel_tr (bel_tr k5 Ha6.out.bel) Ha7.out.bel
      exact k7.grown Ga8.out k7.size (own_ge Oa5.out))
    have Xa8 : Hid (Rd wa8 (some ⟨wa5.heap.size, 0, none⟩) 1 (bs [0])) := Lib.hid (at_rd (grownR (Ha6.out.at_.on Ha7.out.bel) Ga8.out (fun e => by have := own_lt Oa5.out _ e; omega)) rfl)
    have Ba8 := Lib.hid (bel_tr Bw2.out Ka8.out)
    obtain ⟨Aa8, ca8, rfl, k1, k2⟩ := own_form Oa8.out
    have Ra8 := Lib.hid (rows_ext (Rd.own Oa8.out) k1 (by unfold maxLen at k2; omega) (Rw2.out.below Ka8.out) Xa8.out (by decide))
    have Na8 : Hid (Aa8 = none → n + 1 = 0 ∧ ca8 = 0) := Lib.hid (own_nilS Oa8.out)
    clear k1 k2 Oa5 Ga5 Ha6 Ha7 Oa8 Ga8 Xa8
    have AM2 := Lib.hid (H1.out.at_.on H2.out.bel)
    have AZ2 := Lib.hid H2.out.at_
    have hsz1 : w.heap.size < w1.heap.size := by have := H1.out.size; omega
    clear H1 H2
    obtain ⟨g3, hg3⟩ : ∃ y, w.heap.size = y := ⟨_, rfl⟩
    have GR := Lib.hid hg3
    rw [hg3] at AM2 hsz1 ⊢
    clear hg3
    generalize w1.heap.size = g6 at *
    have HOa := Lib.hid (rhof_ok s _ (n + 1) _ _ _ _ _ wa8 hs HT0.out (by omega) Ra8.out)
    obtain ⟨xsa, hsh⟩ : ∃ y, sha (hbs (sb s) (n + 1) (onem RB n [0])) = y := ⟨_, rfl⟩
    rw [hsh] at HOa
    have HVa : Hid (half s n RB 0 = val xsa) := Lib.hid (by rw [← hsh]; rfl)
    have HSLa : Hid (xsa.length = 32) := Lib.hid (by rw [← hsh]; exact sha_len _)
    have HSBa : Hid (∀ y ∈ xsa, y < 256) := Lib.hid (by rw [← hsh]; exact sha_lt _)
    clear hsh
    refine HOa.out.mono ?_
    rintro e wa9 ⟨rfl, b9⟩
    have Ba9 := Lib.hid (bel_tr Ba8.out b9)
    have Ka9 := Lib.hid (bel_tr Ka8.out b9)
    clear b9 HOa Ba8 Ka8 Ra8 Na8
    go_wp2_with (first | (refine law_alloc (d := 8) (ty := 28) _ zero_hash ?_; intro wa1 N1; have Ha1 := Lib.hid N1; clear N1) | (refine law_store (ty := 28) wa9.heap.size 0 _ (bs (List.replicate 32 0)).toArray (bs xsa) rfl rfl Ha1.out.at_ (by simp [bs, HSLa.out]) (by rw [size_hash, bs_len, HSLa.out]) (bs_one _) ?_; intro wa2 P2; have b2 := Ha1.out.put P2; have Ea := Lib.hid (Put.hash xsa HSLa.out P2); have Bwa2 := Lib.hid (bel_tr Ba9.out b2); have Kwa2 := Lib.hid (bel_tr Ka9.out b2); have Rwa2 := Lib.hid (HR.out.below Bwa2.out); clear b2 P2 Ha1 Ba9 Ka9) | (at_builtin; refine wpList_append_rd _ rfl (.const (.slice none 0 0)) (.tmp 26) 34 rfl wa2.heap.size 22 i0 (.slice none 0 0) 24 Tryd.underlying34 hi hz0 hz1 hz2 rfl (.slice none 0 0) 0 [] rfl (World.ownsRow_nil _ _ _ _) A n c (heads RA RL RC n) rfl HN.out Rwa2.out.heads (heads_one _ _ _ _) (by unfold maxLen; omega) (by omega) (Nat.le_refl _) ?_; intro vb5 wb5 hown5 hgrow5; rw [Nat.zero_add, List.nil_append] at hown5; have Ob5 := Lib.hid hown5; have Gb5 := Lib.hid hgrow5; clear hown5 hgrow5) | (refine law_bldB (d := 28) 1 ?_; intro wb6 N6; have Hb6 := Lib.hid N6; clear N6) | (refine law_bldR (d := 29) (some ⟨wb5.heap.size, 0, none⟩) 1 1 rfl ?_; intro wb7 N7; have Hb7 := Lib.hid N7; clear N7) | (at_builtin; refine wpList_append_rd _ rfl (.tmp 27) (.tmp 29) 34 rfl wa2.heap.size 22 i0 (.slice none 0 0) 24 Tryd.underlying34 hi hz0 hz1 hz2 rfl vb5 n (heads RA RL RC n) rfl (own_on (own_on Ob5.out Hb6.out.bel (Nat.le_refl _)) Hb7.out.bel (Nat.le_refl _)) (some ⟨wb6.heap.size, 0, none⟩) 1 1 [.slice (some ⟨wb5.heap.size, 0, none⟩) 1 1] rfl (fun e => by cases e) (at_rd Hb7.out.at_ rfl) (by intro v hv; simp at hv; rw [hv]; rfl) (by unfold maxLen; omega) (by omega) (by have := Gb5.out.size; have := Hb6.out.size; have := Hb7.out.size; omega) ?_; intro vb8 wb8 hown8 hgrow8; have Ob8 := Lib.hid hown8; have Gb8 := Lib.hid hgrow8; clear hown8 hgrow8))
    have Kb8 : Hid (Below wa2.heap.size wa2 wb8) := Lib.hid (by
      have k5 : Below wa2.heap.size wa2 wb5 := (Below.refl _ _).grown Gb5.out (Nat.le_refl _) (fun k e => by cases e)
      have k7 := bel_tr (bel_tr k5 Hb6.out.bel) Hb7.out.bel
      exact k7.grown Gb8.out k7.size (own_ge Ob5.out))
    have Xb8 : Hid (Rd wb8 (some ⟨wb5.heap.size, 0, none⟩) 1 (bs [1])) := Lib.hid (at_rd (grownR (Hb6.out.at_.on Hb7.out.bel) Gb8.out (fun e => by have := own_lt Ob5.out _ e; omega)) rfl)
    have Bb8 := Lib.hid (bel_tr Bwa2.out Kb8.out)
    obtain ⟨Ab8, cb8, rfl, k1, k2⟩ := own_form Ob8.out
    have Rb8 := Lib.hid (rows_ext (Rd.own Ob8.out) k1 (by unfold maxLen at k2; omega) (Rwa2.out.below Kb8.out) Xb8.out (by decide))
    have Nb8 : Hid (Ab8 = none → n + 1 = 0 ∧ cb8 = 0) := Lib.hid (own_nilS Ob8.out)
    clear k1 k2 Ob5 Gb5 Hb6 Hb7 Ob8 Gb8 Xb8
    have HOb := Lib.hid (rhof_ok s _ (n + 1) _ _ _ _ _ wb8 hs HT1.out (by omega) Rb8.out)
    obtain ⟨xsb, hsh⟩ : ∃ y, sha (hbs (sb s) (n + 1) (onem RB n [1])) = y := ⟨_, rfl⟩
    rw [hsh] at HOb
    have HVb : Hid (half s n RB 1 = val xsb) := Lib.hid (by rw [← hsh]; rfl)
    have HSLb : Hid (xsb.length = 32) := Lib.hid (by rw [← hsh]; exact sha_len _)
    have HSBb : Hid (∀ y ∈ xsb, y < 256) := Lib.hid (by rw [← hsh]; exact sha_lt _)
    clear hsh
    refine HOb.out.mono ?_
    rintro e wb9 ⟨rfl, b9⟩
    have Bb9 := Lib.hid (bel_tr Bb8.out b9)
    have Kb9 := Lib.hid (bel_tr Kb8.out b9)
    clear b9 HOb Bb8 Kb8 Rb8 Nb8
    generalize wa9.heap.size = ga at *
    go_wp2_with (first | (refine law_alloc (d := 9) (ty := 28) _ zero_hash ?_; intro wb1 N1; have Hb1 := Lib.hid N1; clear N1) | (refine law_store (ty := 28) wb9.heap.size 0 _ (bs (List.replicate 32 0)).toArray (bs xsb) rfl rfl Hb1.out.at_ (by simp [bs, HSLb.out]) (by rw [size_hash, bs_len, HSLb.out]) (bs_one _) ?_; intro wb2 P2; have b2 := Hb1.out.put P2; have Eb := Lib.hid (Put.hash xsb HSLb.out P2); have Bwb2 := Lib.hid (bel_tr Bb9.out b2); have Kwb2 := Lib.hid (bel_tr Kb9.out b2); have Rwb2 := Lib.hid (HR.out.below Bwb2.out); clear b2 P2 Hb1 Bb9 Kb9))
    have Ea2 := Lib.hid (Ea.out.on Kwb2.out)
    clear Ea
    generalize wb9.heap.size = gb at *
    have AM3 := Lib.hid ((AM2.out.on Kwa2.out).on Kwb2.out)
    have AZ3 := Lib.hid ((AZ2.out.on Kwa2.out).on Kwb2.out)
    clear AM2 AZ2 Kwa2 Kwb2 Rwb2 Rwa2 HT0 HT1 HR HN
    have HGa := Lib.hid (rgetLong_ok (some ⟨ga, 0, none⟩) 32 32 xsa wb2 (by omega) (by omega) (by omega) (at_bytes Ea2.out rfl HSLa.out) HSBa.out)
    rw [num_val xsa HSLa.out HSBa.out, ← HVa.out] at HGa
    refine HGa.out.mono ?_
    rintro e wc0 ⟨rfl, b0⟩
    have Bwc0 := Lib.hid (bel_tr Bwb2.out b0)
    have Kwc0 := Lib.hid b0
    clear b0 HGa
    have Eb2 := Lib.hid (Eb.out.on Kwc0.out)
    have AM4 := Lib.hid (AM3.out.on Kwc0.out)
    have AZ4 := Lib.hid (AZ3.out.on Kwc0.out)
    obtain ⟨hi', hhi⟩ : ∃ y, half s n RB 0 = y := ⟨_, rfl⟩
    rw [hhi] at HWD ⊢
    clear Eb AM3 AZ3 Kwc0 Ea2 hhi HVa HSLa HSBa
    go_wp2_with (first | (refine law_alloc (d := 10) (ty := 37) _ zero_num ?_; intro wc1 N1; have Hc1 := Lib.hid N1; clear N1) | (refine law_store (ty := 37) wc0.heap.size 0 _ (nv 0).toArray (nv hi') rfl rfl Hc1.out.at_ (Nat.le_refl _) size_num (nv_one hi') ?_; intro wc2 P2; have b2 := Hc1.out.put P2; have Ec := Lib.hid (Put.num P2); have Bwc2 := Lib.hid (bel_tr Bwc0.out b2); have Kwc2 := Lib.hid b2; clear b2 P2 Hc1))
    have Eb3 := Lib.hid (Eb2.out.on Kwc2.out)
    have AM5 := Lib.hid (AM4.out.on Kwc2.out)
    have AZ5 := Lib.hid (AZ4.out.on Kwc2.out)
    clear Eb2 AM4 AZ4 Kwc2 Bwc0
    generalize wc0.heap.size = gc at *
    have HGb := Lib.hid (rgetLong_ok (some ⟨gb, 0, none⟩) 32 32 xsb wc2 (by omega) (by omega) (by omega) (at_bytes Eb3.out rfl HSLb.out) HSBb.out)
    rw [num_val xsb HSLb.out HSBb.out, ← HVb.out] at HGb
    refine HGb.out.mono ?_
    rintro e wd0 ⟨rfl, b0⟩
    have Bwd0 := Lib.hid (bel_tr Bwc2.out b0)
    have Kwd0 := Lib.hid b0
    clear b0 HGb
    have Ec2 := Lib.hid (Ec.out.on Kwd0.out)
    have AM6 := Lib.hid (AM5.out.on Kwd0.out)
    have AZ6 := Lib.hid (AZ5.out.on Kwd0.out)
    obtain ⟨lo', hlo⟩ : ∃ y, half s n RB 1 = y := ⟨_, rfl⟩
    rw [hlo] at HWD ⊢
    clear Ec AM5 AZ5 Kwd0 Eb3 hlo HVb HSLb HSBb
    go_wp2_with (first | (refine law_alloc (d := 12) (ty := 37) _ zero_num ?_; intro wd1 N1; have Hd1 := Lib.hid N1; clear N1) | (refine law_store (ty := 37) wd0.heap.size 0 _ (nv 0).toArray (nv lo') rfl rfl Hd1.out.at_ (Nat.le_refl _) size_num (nv_one lo') ?_; intro wd2 P2; have b2 := Hd1.out.put P2; have Bwd2 := Lib.hid (bel_tr Bwd0.out b2); have Kwd2 := Lib.hid b2; obtain ⟨c0, c1, c2, c3⟩ := at_num (Put.num P2); obtain ⟨d0, d1, d2, d3⟩ := at_num (Ec2.out.on b2); obtain ⟨e0, e1, e2, e3⟩ := at_num (AM6.out.on b2); clear b2 P2 Hd1))
    obtain ⟨r, hr⟩ : ∃ y, numOf M s n RB = y := ⟨_, rfl⟩
    obtain ⟨ee, hee⟩ : ∃ y, errOf M = y := ⟨_, rfl⟩
    rw [hr, hee] at HWD
    have HRR := Lib.hid hr
    have HEE := Lib.hid hee
    have AZ7 := Lib.hid (AZ6.out.on Kwd2.out)
    clear hr hee c0 c1 c2 c3 d0 d1 d2 d3 e0 e1 e2 e3 Kwd2 Bwd0 AM6 AZ6 Ec2
    refine (HWD.out _).mono ?_
    rintro e we0 ⟨rfl, b0⟩
    have AZ8 := Lib.hid (AZ7.out.on b0)
    have B8 := Lib.hid (bel_tr Bwd2.out b0)
    clear b0 AZ7 Bwd2 HWD
    go_wp2_with (refine law_store (ty := 37) g6 0 _ (nv 0).toArray (nv r) rfl rfl AZ8.out (Nat.le_refl _) size_num (nv_one r) ?_; intro we1 P3; have H3 := Lib.hid P3; obtain ⟨d0, d1, d2, d3⟩ := at_num (Put.num P3); clear P3)
    refine bodyPost_ret (v := .tuple #[Nu.num r, .int .i64 ee]) (by simp [results, Tryd.results16, go_sem, d0, d1, d2, d3]) rfl ⟨by rw [HRR.out, HEE.out], B8.out.grown H3.out.grown B8.out.size (by have := GR.out; simp; omega)⟩
end Go.Proofs.YtkmjfaaelkmnkaaDoor

/-
  HashesOf: what is hashed as anything, of any parts, and its number below any m, are exactly as documented, or refused; parts stay as they were.
-/
namespace Go.Proofs.YtkmjfaaelkmnkaaDoor
open Go.RowKit
set_option linter.unusedSimpArgs false
set_option linter.unusedVariables false
set_option maxRecDepth 100000

theorem tot_at (RL : Nat → Nat) (n j : Nat) (h : j < n) : RL j ≤ tot RL n := by
  have := tot_le RL (show j + 1 ≤ n by omega)
  simp only [tot] at this
  omega
theorem cat_tot (RB : Nat → List Nat) (RL : Nat → Nat) : ∀ n, (∀ j, j < n → (RB j).length = RL j) → (cat (fun j => putB (RB j)) n).length = 4 * n + tot RL n
  | 0, _ => by simp [cat, tot]
  | n + 1, h => by
    have h1 := cat_tot RB RL n (fun j hj => h j (by omega))
    simp only [cat, List.length_append, putB_len, tot]
    rw [h1, h n (by omega)]; omega
theorem Rows2.len {w : World} {A : Option Addr} {n c : Nat} {RA : Nat → Option Addr} {RL RC : Nat → Nat} {RB : Nat → List Nat} (h : Rows2 w A n c RA RL RC RB) : ∀ j, j < n → (RB j).length = RL j := fun j hj => by
  have := (h.rd j hj).1; rwa [bs_len] at this

set_option maxHeartbeats 2000000 in
theorem hashesOf_walk (s : ByteArray) (A : Option Addr) (n c : Nat) (RA : Nat → Option Addr) (RL RC : Nat → Nat) (RB : Nat → List Nat) (M : Nat) (w : World) (hs : s.size ≤ 9223372036854775807) (hn0 : n ≤ 9223372036854775807) (hM : M < 2 ^ 256)
    (hnil : A = none → n = 0 ∧ c = 0) (hR : Rows2 w A n c RA RL RC RB) (T : Tabs w) :
    Calls Tryd.prog 4 #[.string s, .slice A n c, Nu.num M] w fun e w' => e = .returned (.bool true) ∧ Below w.heap.size w w' := by
  have HR := Lib.hid hR
  have HT := Lib.hid T
  have HN := Lib.hid hnil
  have HM := Lib.hid hM
  have HG := Lib.hid (fun w (h : Rows2 w A n c RA RL RC RB) => great_ok s A n c RA RL RC RB w hs hn0 h)
  clear hR T hnil hM
  obtain ⟨b, hb⟩ : ∃ b, grt s.size n RL = b := ⟨_, rfl⟩
  rw [hb] at HG
  have HB := Lib.hid hb
  clear hb
  go_enter Tryd.func4, Tryd.ntmps4
  go_wp2_with (refine law_box (d := 5) (ty := 37) (nv M).toArray rfl ?_; intro w1 N1; have H1 := Lib.hid N1; clear N1)
  have B1 := Lib.hid H1.out.bel
  have A1 := Lib.hid H1.out.at_
  have R1 := Lib.hid (HR.out.below B1.out)
  have T1 := Lib.hid (HT.out.on B1.out)
  clear H1 HR HT
  refine (HG.out _ R1.out).mono ?_
  rintro e w2 ⟨rfl, rfl⟩
  clear HG
  obtain ⟨gm, hgm⟩ : ∃ x, w.heap.size = x := ⟨_, rfl⟩
  have GR := Lib.hid hgm
  rw [hgm] at A1 ⊢
  clear hgm
  cases b with
  | true =>
    go_wp2
    go_ret
    exact ⟨rfl, B1.out⟩
  | false =>
    obtain ⟨hs5, hn2, ht2⟩ := grt_no HB.out
    have HL := Lib.hid (fun j (hj : j < n) => (show RL j ≤ 20000 by have := tot_at RL n j hj; omega))
    have HC : Hid ((cat (fun j => putB (RB j)) n).length ≤ 900000) := Lib.hid (by rw [cat_tot RB RL n R1.out.len]; omega)
    have HLB := Lib.hid R1.out.len
    have HBY := Lib.hid R1.out.byte
    clear HB ht2
    have HTW := Lib.hid (twr_ok A n c RA RL RC RB w1 (by omega) (fun j hj => by have := HL.out j hj; omega) R1.out)
    go_wp2_with fail
    refine HTW.out.mono ?_
    rintro e w3 ⟨rfl, ⟨RG, gs, tw3⟩, b3⟩
    have W3 := Lib.hid tw3
    have A3 := Lib.hid (A1.out.on b3)
    have R3 := Lib.hid (R1.out.below b3)
    have T3 := Lib.hid (T1.out.on b3)
    have B3 := Lib.hid (bel_tr B1.out b3)
    clear tw3 b3 HTW A1 R1 T1 B1
    generalize w1.heap.size = gt at *
    have HX : Hid (∀ u, Below w3.heap.size w3 u → Rows2 u (some ⟨gt, 0, none⟩) n (n + 1) (fun j => some ⟨RG j, 0, none⟩) RL (fun j => RL j + 1) RB) := Lib.hid (fun u hb => (W3.out.on hb).rows (by omega) (fun j hj => ⟨HLB.out j hj, by have := HL.out j hj; omega⟩) HBY.out)
    have HN3 := Lib.hid (number_ok M HM.out s (some ⟨gt, 0, none⟩) n (n + 1) _ _ _ _ w3 (by omega) (by omega) (fun j hj => by have := HL.out j hj; omega) (fun e => by cases e) (HX.out _ (Below.refl _ _)) T3.out)
    obtain ⟨m0, m1, m2, m3⟩ := at_num A3.out
    go_wp2_with fail
    clear m0 m1 m2 m3
    refine HN3.out.mono ?_
    rintro e w4 ⟨rfl, b4⟩
    have K4 := Lib.hid b4
    have A4 := Lib.hid (A3.out.on b4)
    have R4 := Lib.hid (R3.out.below b4)
    have T4 := Lib.hid (T3.out.on b4)
    have B4 := Lib.hid (bel_tr B3.out b4)
    clear b4 HN3 A3 R3 T3 B3
    obtain ⟨r, hr⟩ : ∃ x, numOf M s n RB = x := ⟨_, rfl⟩
    obtain ⟨ee, hee⟩ : ∃ x, errOf M = x := ⟨_, rfl⟩
    rw [hr, hee]
    have HRR := Lib.hid hr
    have HEE := Lib.hid hee
    clear hr hee
    go_wp2_with (first | (refine law_alloc (d := 8) (ty := 37) _ zero_num ?_; intro w5 N5; have H5 := Lib.hid N5; clear N5) | (refine law_store (ty := 37) w4.heap.size 0 _ (nv 0).toArray (nv r) rfl rfl H5.out.at_ (Nat.le_refl _) size_num (nv_one r) ?_; intro w6 P6; have b6 := H5.out.put P6; have E6 := Lib.hid (Put.num P6); have K6 := Lib.hid (bel_tr K4.out b6); have A6 := Lib.hid (A4.out.on b6); have R6 := Lib.hid (R4.out.below b6); have T6 := Lib.hid (T4.out.on b6); have B6 := Lib.hid (bel_tr B4.out b6); clear b6 P6 H5 K4 A4 R4 T4 B4; obtain ⟨m0, m1, m2, m3⟩ := at_num A6.out))
    clear m0 m1 m2 m3
    generalize w4.heap.size = gn at *
    have HN6 := Lib.hid (rnumber_ok M HM.out s A n c RA RL RC RB w6 hs5 (by omega) HC.out HN.out R6.out)
    rw [HRR.out, HEE.out] at HN6
    refine HN6.out.mono ?_
    rintro e w7 ⟨rfl, b7⟩
    have K7 := Lib.hid (bel_tr K6.out b7)
    have E7 := Lib.hid (E6.out.on b7)
    have R7 := Lib.hid (R6.out.below b7)
    have T7 := Lib.hid (T6.out.on b7)
    have B7 := Lib.hid (bel_tr B6.out b7)
    clear b7 HN6 K6 E6 R6 T6 B6 A6
    go_wp2_with (first | (refine law_alloc (d := 10) (ty := 37) _ zero_num ?_; intro w8 N8; have H8 := Lib.hid N8; clear N8) | (refine law_store (ty := 37) w7.heap.size 0 _ (nv 0).toArray (nv r) rfl rfl H8.out.at_ (Nat.le_refl _) size_num (nv_one r) ?_; intro w9 P9; have b9 := H8.out.put P9; have F9 := Lib.hid (Put.num P9); have E9 := Lib.hid (E7.out.on b9); have K9 := Lib.hid (bel_tr K7.out b9); have R9 := Lib.hid (R7.out.below b9); have T9 := Lib.hid (T7.out.on b9); have B9 := Lib.hid (bel_tr B7.out b9); clear b9 P9 H8 K7 E7 R7 T7 B7))
    generalize w7.heap.size = gk at *
    have HO := Lib.hid (hof_ok s (some ⟨gt, 0, none⟩) n (n + 1) _ _ _ _ w9 (by omega) (by omega) (fun j hj => by have := HL.out j hj; omega) (HX.out _ K9.out) T9.out)
    have H32 := Lib.hid (sha_len (hbs (sb s) n RB))
    have HP : Hid (∀ u, Rows2 u A n c RA RL RC RB → Calls Tryd.prog 18 #[.string s, .slice A n c] u fun e w' => e = .returned (.agg (bs (sha (hbs (sb s) n RB))).toArray) ∧ Below u.heap.size u w') := Lib.hid (fun u h => rhof_ok s A n c RA RL RC RB u hs5 (by have := HC.out; omega) (by omega) h)
    obtain ⟨xs, hxs⟩ : ∃ x, sha (hbs (sb s) n RB) = x := ⟨_, rfl⟩
    rw [hxs] at HO H32 HP
    clear hxs
    refine HO.out.mono ?_
    rintro e w10 ⟨rfl, b10⟩
    have K10 := Lib.hid (bel_tr K9.out b10)
    have E10 := Lib.hid (E9.out.on b10)
    have F10 := Lib.hid (F9.out.on b10)
    have R10 := Lib.hid (R9.out.below b10)
    have B10 := Lib.hid (bel_tr B9.out b10)
    clear b10 HO K9 E9 F9 R9 B9 T9
    go_wp2_with fail
    refine (HP.out _ R10.out).mono ?_
    rintro e w11 ⟨rfl, b11⟩
    have K11 := Lib.hid (bel_tr K10.out b11)
    have E11 := Lib.hid (E10.out.on b11)
    have F11 := Lib.hid (F10.out.on b11)
    have R11 := Lib.hid (R10.out.below b11)
    have B11 := Lib.hid (bel_tr B10.out b11)
    clear b11 HP K10 E10 F10 R10 B10
    have EH := eqH xs H32.out
    have EN := Nu.eqY r
    obtain ⟨m0, m1, m2, m3⟩ := at_num E11.out
    obtain ⟨p0, p1, p2, p3⟩ := at_num F11.out
    generalize bs xs = xv at *
    have HLF := Lib.hid (lfr_ok gt A n c RG RA RL RC RB gs w11 (by omega) (fun j hj => by have := HL.out j hj; omega) (W3.out.on K11.out) R11.out)
    go_wp2_with (first | simp only [EH] | simp only [EN])
    clear m0 m1 m2 m3 p0 p1 p2 p3 EH EN
    refine HLF.out.mono ?_
    rintro e w12 ⟨rfl, b12⟩
    have B12 := Lib.hid (bel_tr B11.out b12)
    clear b12 HLF
    go_wp2
    go_ret
    exact ⟨rfl, B12.out⟩
end Go.Proofs.YtkmjfaaelkmnkaaDoor
