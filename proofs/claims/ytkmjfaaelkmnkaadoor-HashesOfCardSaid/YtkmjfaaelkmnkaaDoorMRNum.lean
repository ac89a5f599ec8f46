/-
  balefireref01's Put, PutLong, PutBytes: what they answer.
-/
import Derived.Test.YtkmjfaaelkmnkaaDoorMConcat
import Derived.Test.YtkmjfaaelkmnkaaDoorMHOf
import Derived.Test.YtkmjfaaelkmnkaaDoorMNuRWWord
import Derived.Test.YtkmjfaaelkmnkaaDoorMNumber
import Derived.Test.YtkmjfaaelkmnkaaDoorMOpenR
import Derived.Test.YtkmjfaaelkmnkaaDoorMROf
namespace Go.Proofs.YtkmjfaaelkmnkaaDoor
open Go.RowKit

theorem own_rd {w : World} {base n : Nat} {A : Option Addr} {c : Nat} {xs : List Value} (h : w.ownsRow base 5 1 (.slice A n c) n xs) : Rd w A n xs := Rd.own h
theorem clamp_is (kk : Int) (k : Nat) (hk : (kk < 0 ∧ k = 0) ∨ (0 ≤ kk ∧ kk ≤ 8 ∧ kk = k) ∨ (8 < kk ∧ k = 8)) :
    ∃ mm : Int, (if 0 < kk then kk else (0 : Int)) = mm ∧ (if mm < 8 then mm else 8) = (k : Int) := by
  rcases hk with ⟨h1, rfl⟩ | ⟨h1, h2, h3⟩ | ⟨h1, rfl⟩
  · exact ⟨0, if_neg (by omega), rfl⟩
  · refine ⟨kk, ?_, ?_⟩ <;> split <;> omega
  · exact ⟨kk, if_pos (by omega), if_neg (by omega)⟩

/-- the lowest bytes, the lowest first -/
def lo (j x : Nat) : List Nat := (List.range j).map fun i => x / 2 ^ (8 * i) % 256
theorem lo_len (j x : Nat) : (lo j x).length = j := by simp [lo]
theorem lo_succ (j x : Nat) : lo (j + 1) x = lo j x ++ [x / 2 ^ (8 * j) % 256] := by simp [lo, List.range_succ]
theorem lo_at (j x i : Nat) (h : i < j) : (lo j x).getD i 0 = x / 2 ^ (8 * i) % 256 := by simp [lo, h]
theorem down (x j : Nat) : x / 2 ^ (8 * j) / 256 = x / 2 ^ (8 * (j + 1)) := by
  rw [Nat.div_div_eq_div_mul, show (256 : Nat) = 2 ^ 8 from rfl, ← Nat.pow_add, show 8 * j + 8 = 8 * (j + 1) by omega]

set_option maxRecDepth 100000 in
set_option maxHeartbeats 2000000 in
theorem rput_any (A : Option Addr) (n c k x : Nat) (kk : Int) (l : List Nat) (w : World) (hk : (kk < 0 ∧ k = 0) ∨ (0 ≤ kk ∧ kk ≤ 8 ∧ kk = k) ∨ (8 < kk ∧ k = 8)) (hn : n ≤ 4194304) (hnil : A = none → n = 0 ∧ c = 0)
    (hr : Rd w A n (bs l)) (hx : x < 18446744073709551616) :
    Calls Tryd.prog 66 #[.slice A n c, .int .u64 x, .int .i64 kk] w fun e w' => ∃ v, e = .returned v ∧ w'.ownsRow w.heap.size 5 1 v (n + k) (bs (l ++ be k x)) ∧ Below w.heap.size w w' := by
  obtain ⟨i0, hi, hz0, hz1, hz2⟩ := info_parts Tryd.info5
  obtain ⟨mm, hmm, hk8⟩ := clamp_is kk k hk
  have hkl : k ≤ 8 := by omega
  clear hk
  go_enter Tryd.func66, Tryd.ntmps66
  go_wp2_with (at_builtin; refine wpList_append_rd _ rfl (.const (.slice none 0 0)) (.tmp 12) 22 rfl w.heap.size 5 i0 (.int .u8 0) 1 Tryd.underlying22 hi hz0 hz1 hz2 rfl (.slice none 0 0) 0 [] rfl (World.ownsRow_nil _ _ _ _) A n c _ rfl hnil hr (bs_one _) (by unfold maxLen; omega) (by omega) (Nat.le_refl _) ?_; intro v1 w1 hown1 hgrow1; simp only [Nat.zero_add, List.nil_append] at hown1; obtain ⟨V1, c1, rfl, _, _⟩ := own_form hown1)
  have hb1 : Below w.heap.size w w1 := (Below.refl _ _).grown hgrow1 (Nat.le_refl _) (by simp [Value.ownBlock])
  clear hgrow1 hr hnil
  go_loopw [1, 9, 10] (fun xv lv i wr => ∃ j : Nat, j ≤ k ∧ i = .int .i64 j ∧ xv = .int .u64 (x / 2 ^ (8 * j) : Nat) ∧ wr.ownsRow w1.heap.size 5 1 lv j (bs (lo j x)) ∧ Below w1.heap.size w1 wr) (fun _ _ i _ => k - (intOf i).toNat)
  case atStart => exact ⟨0, Nat.zero_le _, rfl, by simp, World.ownsRow_nil _ _ _ _, Below.refl _ _⟩
  case round =>
    obtain ⟨j, hj, rfl, rfl, hown, hbr⟩ := hrel
    obtain ⟨LV, lc, rfl, _, _⟩ := own_form hown
    by_cases hlt : j < k
    · have hdn := Lib.hid (down x j)
      have hls := Lib.hid (lo_succ j x)
      obtain ⟨y, hy⟩ : ∃ y, y = x / 2 ^ (8 * j) := ⟨_, rfl⟩
      have hyx : y < 18446744073709551616 := by rw [hy]; exact Nat.lt_of_le_of_lt (Nat.div_le_self _ _) hx
      rw [← hy] at hdn hls ⊢
      clear hy
      go_wp2_with (at_builtin; refine wpList_one _ rfl (.tmp 22) (.tmp 26) 22 rfl w1.heap.size 5 i0 (.int .u8 0) 1 Tryd.underlying22 hi hz0 hz1 hz2 rfl _ j _ rfl (hown.alloc _) ⟨wr.heap.size, 0, none⟩ 1 (.int .u8 ((y : Int) % 256)) rfl ((At.new wr 5 #[_]).cell 0) rfl (by omega) (by unfold maxLen; omega) (by have := hbr.size; simp; omega) ?_; intro v2 w2 hown2 hgrow2 _)
      have hbr2 : Below w1.heap.size w1 w2 := (hbr.alloc hbr.size _).grown hgrow2 (by have := hbr.size; simp; omega) (fun g hg => (hown.lt g hg).1)
      have e2 : bs (lo j x) ++ [Value.int .u8 ((y : Int) % 256)] = bs (lo (j + 1) x) := by rw [hls.out, bs_append]; simp [bs]
      rw [e2] at hown2
      clear hown hgrow2 hbr e2
      go_wp2
      go_roundw
      case rel => exact ⟨j + 1, by omega, by go_num, by rw [← hdn.out]; go_num, hown2, hbr2⟩
      case measure => simp [intOf]; omega
    · obtain rfl : j = k := by omega
      obtain ⟨wb, rfl⟩ : ∃ wb : World, wb = wr := ⟨_, rfl⟩
      generalize x / 2 ^ (8 * j) = xe
      have ho1 := own_on hown1 hbr (Nat.le_refl _)
      have l1 := hown1.lt
      have llow := hown.lt
      have hbw := bel_tr hb1 hbr
      clear hown1 hb1
      go_wp2
      go_loopw [7, 11] (fun v i wi => ∃ r : Nat, r ≤ j ∧ i = .int .i64 ((r : Int) - 1) ∧ wi.ownsRow w.heap.size 5 1 v (n + (j - r)) (bs (l ++ (be j x).take (j - r))) ∧ (∀ g, v.ownBlock = some g → g < w1.heap.size ∨ wb.heap.size ≤ g) ∧
          wi.ownsRow w1.heap.size 5 1 (.slice LV j lc) j (bs (lo j x)) ∧ wb.heap.size ≤ wi.heap.size ∧ Below w.heap.size w wi) (fun _ i _ => (intOf i + 1).toNat)
      case atStart => exact ⟨j, Nat.le_refl _, by go_num, by simpa using ho1, fun g hg => .inl (l1 g hg).2, hown, Nat.le_refl _, hbw⟩
      case round =>
        obtain ⟨r, hr, rfl, hv, hvb, hlow, hsz, hbi⟩ := hrel
        obtain ⟨V, cv, rfl, _, _⟩ := own_form hv
        clear ho1 hown hbr hbw
        match r, hr with
        | 0, _ =>
          simp only [Nat.sub_zero] at hv
          rw [List.take_of_length_le (by rw [be_len]; exact Nat.le_refl _)] at hv
          go_wp2
          go_ret
          exact ⟨_, rfl, hv, hbi⟩
        | r + 1, hr =>
          have er : ((r + 1 : Nat) : Int) - 1 = (r : Int) := by omega
          rw [er]
          obtain ⟨b, off, rfl, hbs, hcell⟩ := (own_rd hlow).spot (show r < j by omega)
          have hx1 : wr.cell? ⟨b, off + r, none⟩ = some (.int .u8 (x / 2 ^ (8 * r) % 256 : Nat)) := by rw [hcell r _ (bs_at _ r (by rw [lo_len]; omega)), lo_at j x r (by omega)]
          have hbt := Lib.hid (be_take j x (j - (r + 1)) (by omega))
          rw [show j - (r + 1) + 1 = j - r by omega, show j - 1 - (j - (r + 1)) = r by omega] at hbt
          obtain ⟨y, hy⟩ : ∃ y, y = x / 2 ^ (8 * r) % 256 := ⟨_, rfl⟩
          rw [← hy] at hbt hx1
          clear hcell hy
          have hap : (Value.slice (some ⟨b, off, none⟩) j lc).ownBlock = none ∨ (Value.slice (some ⟨b, off, none⟩) j lc).ownBlock ≠ (Value.slice V (n + (j - (r + 1))) cv).ownBlock := by
            cases hq : (Value.slice (some ⟨b, off, none⟩) j lc).ownBlock with
            | none => exact .inl rfl
            | some g =>
              refine .inr fun e => ?_
              have h1 := llow g hq
              have h2 := hvb g e.symm
              omega
          go_wp2_with (at_builtin; refine wpList_one _ rfl (.tmp 36) (.tmp 41) 22 rfl w.heap.size 5 i0 (.int .u8 0) 1 Tryd.underlying22 hi hz0 hz1 hz2 rfl _ (n + (j - (r + 1))) _ rfl (hv.alloc _) ⟨wr.heap.size, 0, none⟩ 1 (.int .u8 (y : Int)) rfl ((At.new wr 5 #[_]).cell 0) rfl (by omega) (by unfold maxLen; omega) (by have := hbi.size; simp; omega) ?_; intro v2 w2 hown2 hgrow2 hcase)
          have hlow2 := (hlow.alloc _).kept hgrow2 hap
          have hbi2 : Below w.heap.size w w2 := (hbi.alloc hbi.size _).grown hgrow2 (by have := hbi.size; simp; omega) (fun g hg => (hv.lt g hg).1)
          have hvb2 : ∀ g, v2.ownBlock = some g → g < w1.heap.size ∨ wb.heap.size ≤ g := by
            rcases hcase with ⟨g, cap, e1, rfl⟩ | ⟨_, h2⟩
            · intro g' hg'
              have e3 : Value.slice V (n + (j - (r + 1))) cv = .slice (some ⟨g, 0, none⟩) (n + (j - (r + 1))) cap := e1
              refine hvb g' ?_
              rw [e3]
              exact hg'
            · intro g hg
              have := h2 g hg
              simp at this
              omega
          have hsz2 : wb.heap.size ≤ w2.heap.size := by have := hgrow2.size; simp at this; omega
          have e2 : bs (l ++ (be j x).take (j - (r + 1))) ++ [Value.int .u8 (y : Int)] = bs (l ++ (be j x).take (j - r)) := by rw [hbt.out, ← List.append_assoc, bs_append (l ++ _)]; simp [bs]
          rw [e2, show n + (j - (r + 1)) + 1 = n + (j - r) by omega] at hown2
          clear hv hgrow2 hbi hcase hvb hlow e2 hsz hap
          go_wp2
          go_roundw
          case rel => exact ⟨r, by omega, by go_num, hown2, hvb2, hlow2, hsz2, hbi2⟩
          case measure => simp [intOf]
end Go.Proofs.YtkmjfaaelkmnkaaDoor

/-
  balefireref01's PutLong, PutBytes: what they answer.
-/
namespace Go.Proofs.YtkmjfaaelkmnkaaDoor
open Go.RowKit

set_option maxRecDepth 100000 in
theorem rputBytes_any (A L : Option Addr) (n c m d : Nat) (b l : List Nat) (w : World) (hn : n ≤ 4194000) (hnil : A = none → n = 0 ∧ c = 0) (hr : Rd w A n (bs b))
    (hm : m ≤ 4194000) (hnil' : L = none → m = 0 ∧ d = 0) (hl : Rd w L m (bs l)) :
    Calls Tryd.prog 65 #[.slice A n c, .slice L m d] w fun e w' => ∃ v, e = .returned v ∧ w'.ownsRow w.heap.size 5 1 v (n + (4 + m)) (bs (b ++ putB l)) ∧ Below w.heap.size w w' := by
  obtain ⟨i0, hi, hz0, hz1, hz2⟩ := info_parts Tryd.info5
  have H := Lib.hid (rput_any A n c 4 m 4 b w (by omega) (by omega) hnil hr (by omega))
  have hlen := Lib.hid hl.1
  go_enter Tryd.func65, Tryd.ntmps65
  go_wp2_with (first | (go_at_call 66; refine H.out.mono ?_; rintro e w1 ⟨v1, rfl, hown, hb⟩; obtain ⟨V1, c1, rfl, _, _⟩ := own_form hown) | (at_builtin; refine wpList_append_rd _ rfl (.tmp 9) (.tmp 10) 22 rfl w.heap.size 5 i0 (.int .u8 0) 1 Tryd.underlying22 hi hz0 hz1 hz2 rfl (.slice V1 (n + 4) c1) (n + 4) _ rfl hown L m d (bs l) rfl hnil' (hl.below hb) (bs_one l) (by unfold maxLen; omega) (by omega) hb.size ?_; intro v w2 hown2 hgrow2))
  go_ret
  refine ⟨v, rfl, ?_, hb.grown hgrow2 hb.size (fun g hg => (hown.lt g hg).1)⟩
  have e1 : b ++ putB l = (b ++ be 4 m) ++ l := by
    have := hlen.out
    rw [bs_len] at this
    simp [putB, this]
  rw [e1, bs_append (b ++ be 4 m), ← Nat.add_assoc]
  exact hown2

end Go.Proofs.YtkmjfaaelkmnkaaDoor

/-
  What is hashed, put together: by the document's own Bytes, by the statements' own bytes.
-/
namespace Go.Proofs.YtkmjfaaelkmnkaaDoor
open Go.RowKit
set_option linter.unusedSimpArgs false
set_option linter.unusedVariables false
set_option maxRecDepth 100000

theorem cat_le (RB : Nat → List Nat) {k n : Nat} (h : k ≤ n) : (cat RB k).length ≤ (cat RB n).length := by
  induction n with
  | zero => obtain rfl : k = 0 := by omega
            exact Nat.le_refl _
  | succ n ih =>
    by_cases e : k = n + 1
    · subst e; exact Nat.le_refl _
    · have := ih (by omega); simp only [cat, List.length_append]; omega
theorem own_nil {w : World} {base n c : Nat} {A : Option Addr} {xs : List Value} (h : w.ownsRow base 5 1 (.slice A n c) n xs) : A = none → n = 0 ∧ c = 0 := by
  intro e
  rcases own_cases h with ⟨h1, h2, _⟩ | ⟨k, c', h1⟩
  · injection h1 with _ h3 h4; exact ⟨h2, h4⟩
  · injection h1 with h2; rw [h2] at e; cases e

set_option maxHeartbeats 2000000 in
theorem rbytes_ok (s : ByteArray) (A : Option Addr) (n c : Nat) (RA : Nat → Option Addr) (RL RC : Nat → Nat) (RB : Nat → List Nat) (w : World) (hs : s.size ≤ 1000000) (hT : (cat (fun j => putB (RB j)) n).length ≤ 1000000) (hn : n ≤ 1000000)
    (hR : Rows2 w A n c RA RL RC RB) :
    Calls Tryd.prog 45 #[.string s, .slice A n c] w fun e w' => ∃ v, e = .returned v ∧ w'.ownsRow w.heap.size 5 1 v (hbs (sb s) n RB).length (bs (hbs (sb s) n RB)) ∧ Below w.heap.size w w' := by
  have HR := Lib.hid hR
  have HT := Lib.hid hT
  clear hR hT
  go_enter Tryd.func45, Tryd.ntmps45
  go_wp2_with (refine law_convS (d := 8) s rfl ?_; intro w3 c3 N3; have H3 := Lib.hid N3; clear N3)
  refine (rputBytes_any none _ 0 0 s.size c3 [] (sb s) w3 (by omega) (fun _ => ⟨rfl, rfl⟩) (Rd.nil _ _) (by omega) (fun h => by cases h) H3.out.rd).mono ?_
  rintro e w4 ⟨v4, rfl, o4, b4⟩
  simp only [Nat.zero_add, List.nil_append] at o4
  have B4 := Lib.hid (bel_tr H3.out.bel b4)
  have z3 := H3.out.size
  obtain ⟨A4, c4, rfl, k41, k42, r4, nil4, far4⟩ := src_of (g := w.heap.size) o4 (by omega)
  clear o4 b4 far4 H3 z3
  have R4 := Lib.hid r4
  have N4 := Lib.hid nil4
  have K41 := Lib.hid k41
  have K42 := Lib.hid k42
  clear r4 nil4 k41 k42
  have hwn : IntKind.u64.wrap (n : Int) = (n : Int) := by rw [IntKind.wrap_u64]; omega
  go_wp2_with fail
  clear hwn
  refine (rput_any A4 (4 + s.size) c4 4 n 4 (putB (sb s)) w4 (by omega) (by omega) N4.out R4.out (by omega)).mono ?_
  rintro e w6 ⟨v6, rfl, o6, b6⟩
  have B6 := Lib.hid (bel_tr B4.out b6)
  have O6 : Hid (w6.ownsRow w.heap.size 5 1 v6 (putB (sb s) ++ (be 4 n ++ cat (fun j => putB (RB j)) 0)).length (bs (putB (sb s) ++ (be 4 n ++ cat (fun j => putB (RB j)) 0)))) := Lib.hid (by
    have e1 : putB (sb s) ++ (be 4 n ++ cat (fun j => putB (RB j)) 0) = putB (sb s) ++ be 4 n := by simp [cat]
    have e2 : (putB (sb s) ++ be 4 n).length = 4 + s.size + 4 := by simp [putB_len, be_len, sb_len]
    rw [e1, e2]
    exact own_on o6 (Below.refl _ _) (by have := B4.out.size; omega))
  clear o6 b6 B4 R4 N4 K41 K42
  go_wp2_with fail
  go_loopw [5, 6] (fun bv i' wr => ∃ k : Nat, k ≤ n ∧ i' = .int .i64 k ∧ Hid (wr.ownsRow w.heap.size 5 1 bv (putB (sb s) ++ (be 4 n ++ cat (fun j => putB (RB j)) k)).length (bs (putB (sb s) ++ (be 4 n ++ cat (fun j => putB (RB j)) k)))) ∧ Hid (Below w.heap.size w wr)) (fun _ i' _ => n - (intOf i').toNat)
  case atStart => exact ⟨0, by omega, rfl, O6, B6⟩
  case round =>
    obtain ⟨k, hk, rfl, O8, B8⟩ := hrel
    clear O6 B6
    have R8 := Lib.hid (HR.out.below B8.out)
    by_cases hlt : k < n
    · have hlt' : (k : Int) < (n : Int) := by omega
      obtain ⟨b, o, rfl, hbl, hcell⟩ := R8.out.cell k hlt
      have hc1 := cat_le (fun j => putB (RB j)) (show k + 1 ≤ n by omega)
      have hT := HT.out
      have hrl : RL k ≤ 1000000 ∧ (putB (sb s) ++ (be 4 n ++ cat (fun j => putB (RB j)) k)).length ≤ 3000000 := by
        have h2 := (R8.out.rd k hlt).1
        rw [bs_len] at h2
        simp only [cat, List.length_append, putB_len, be_len, sb_len] at hc1 hT ⊢
        omega
      have hrl2 := hrl.1
      have hpl := hrl.2
      clear hrl hc1 hT
      have HRD := Lib.hid (R8.out.rd k hlt)
      have HNIL := Lib.hid (R8.out.rnil k hlt)
      have HST : Hid (putB (sb s) ++ (be 4 n ++ cat (fun j => putB (RB j)) k) ++ putB (RB k) = putB (sb s) ++ (be 4 n ++ cat (fun j => putB (RB j)) (k + 1))) := Lib.hid (by simp [cat, List.append_assoc])
      have HSL : Hid ((putB (sb s) ++ (be 4 n ++ cat (fun j => putB (RB j)) k)).length + (4 + RL k) = (putB (sb s) ++ (be 4 n ++ cat (fun j => putB (RB j)) (k + 1))).length) := Lib.hid (by
        have h2 := (R8.out.rd k hlt).1
        rw [bs_len] at h2
        rw [← HST.out, List.length_append (bs := putB (RB k)), putB_len, h2])
      obtain ⟨pre, hpre⟩ : ∃ x, putB (sb s) ++ (be 4 n ++ cat (fun j => putB (RB j)) k) = x := ⟨_, rfl⟩
      rw [hpre] at O8 HST HSL hpl
      clear hpre
      generalize RA k = ra at *
      generalize RL k = rl at *
      generalize RC k = rc at *
      generalize RB k = rb at *
      obtain ⟨pn, hpn⟩ : ∃ x, pre.length = x := ⟨_, rfl⟩
      rw [hpn] at O8 HSL hpl
      clear hpn
      obtain ⟨A8, c8, rfl, k81, k82⟩ := own_form O8.out
      have R9 := Lib.hid (Rd.own O8.out)
      have N9 : Hid (A8 = none → pn = 0 ∧ c8 = 0) := Lib.hid (own_nil O8.out)
      clear O8 R8
      unfold maxLen at k82
      have K1 := Lib.hid k81
      have K2 := Lib.hid k82
      clear k81 k82
      go_wp2_with fail
      refine (rputBytes_any A8 ra pn c8 rl rc pre rb _ (by omega) N9.out R9.out (by omega) HNIL.out HRD.out).mono ?_
      rintro e w9 ⟨v9, rfl, o9, b9⟩
      rw [HSL.out, HST.out] at o9
      have O9 := Lib.hid (own_on o9 (Below.refl _ _) (show w.heap.size ≤ _ by have := B8.out.size; omega))
      have B9 := Lib.hid (bel_tr B8.out b9)
      clear o9 b9 B8 R9 N9 HRD K1 K2
      go_wp2
      go_roundw
      case rel => exact ⟨k + 1, by omega, by go_num, O9, B9⟩
      case measure => simp [intOf]; omega
    · obtain rfl : k = n := by omega
      have hlt' : ¬ (k : Int) < (k : Int) := by omega
      have O8' : Hid (_ ∧ _) := Lib.hid ⟨O8.out, B8.out⟩
      clear O8 B8 R8
      go_wp2
      go_ret
      exact ⟨_, rfl, O8'.out.1, O8'.out.2⟩
end Go.Proofs.YtkmjfaaelkmnkaaDoor

/-
  The document's own Of (balefireref06).
-/
namespace Go.Proofs.YtkmjfaaelkmnkaaDoor
open Go.RowKit
set_option linter.unusedSimpArgs false
set_option linter.unusedVariables false
set_option maxRecDepth 100000

theorem hbs_lt (a : List Nat) (n : Nat) (RB : Nat → List Nat) (ha : ∀ y ∈ a, y < 256) (h : ∀ j, j < n → ∀ y ∈ RB j, y < 256) : ∀ y ∈ hbs a n RB, y < 256 := by
  intro y hy
  rcases List.mem_append.1 hy with hy | hy
  · exact putB_lt a ha y hy
  · rcases List.mem_append.1 hy with hy | hy
    · exact be_lt 4 n y hy
    · exact cat_lt _ n (fun j hj => putB_lt _ (h j hj)) y hy
theorem hbs_size (a : List Nat) (n : Nat) (RB : Nat → List Nat) : (hbs a n RB).length = 8 + a.length + (cat (fun j => putB (RB j)) n).length := by
  simp only [hbs, List.length_append, putB_len, be_len]; omega

set_option maxHeartbeats 2000000 in
theorem rhof_ok (s : ByteArray) (A : Option Addr) (n c : Nat) (RA : Nat → Option Addr) (RL RC : Nat → Nat) (RB : Nat → List Nat) (w : World) (hs : s.size ≤ 5000) (hT : (cat (fun j => putB (RB j)) n).length ≤ 1000000) (hn : n ≤ 1000000)
    (hR : Rows2 w A n c RA RL RC RB) :
    Calls Tryd.prog 18 #[.string s, .slice A n c] w fun e w' => e = .returned (.agg (bs (sha (hbs (sb s) n RB))).toArray) ∧ Below w.heap.size w w' := by
  have HB := Lib.hid (hbs_lt (sb s) n RB (sb_lt s) hR.byte)
  have HLn := Lib.hid (hbs_size (sb s) n RB)
  have HR := Lib.hid hR
  clear hR
  have hl : (hbs (sb s) n RB).length ≤ 1048576 := by have := HLn.out; rw [sb_len] at this; omega
  have HL2 := Lib.hid hl
  clear hl
  go_enter Tryd.func18, Tryd.ntmps18
  go_wp2_with (refine law_alloc (d := 4) (ty := 28) _ zero_hash ?_; intro w1 N1)
  have A1 := Lib.hid N1.at_
  have B1 := Lib.hid N1.bel
  have R1 := Lib.hid (HR.out.below N1.bel)
  clear N1
  obtain ⟨gr, hgr⟩ : ∃ x, w.heap.size = x := ⟨_, rfl⟩
  have GR := Lib.hid hgr
  rw [hgr] at A1 ⊢
  clear hgr
  have HY := Lib.hid (rbytes_ok s A n c RA RL RC RB w1 (by omega) hT hn R1.out)
  clear hT
  go_wp2_with fail
  refine HY.out.mono ?_
  rintro e w2 ⟨v, rfl, o2, b2⟩
  obtain ⟨A2, c2, rfl, k1, k2⟩ := own_form o2
  have HO := Lib.hid (rof_ok A2 _ c2 _ w2 (Rd.own o2) (own_nil o2) HB.out HL2.out)
  have A2' := Lib.hid (A1.out.on b2)
  have B2 := Lib.hid (bel_tr B1.out b2)
  clear o2 b2 k1 k2 HY A1 B1 R1
  have h32 : Hid ((bs (sha (hbs (sb s) n RB))).length = 32) := Lib.hid (by rw [bs_len, sha_len])
  have ho32 := Lib.hid (bs_one (sha (hbs (sb s) n RB)))
  obtain ⟨xh, hxh⟩ : ∃ xh, bs (sha (hbs (sb s) n RB)) = xh := ⟨_, rfl⟩
  rw [hxh] at HO h32 ho32
  have HXH := Lib.hid hxh
  have z32 : Hid ((bs (List.replicate 32 0)).length = 32) := Lib.hid (by simp [bs_len])
  obtain ⟨zr, hzr⟩ : ∃ zr, bs (List.replicate 32 0) = zr := ⟨_, rfl⟩
  rw [hzr] at A2' z32
  clear hxh hzr
  generalize (hbs (sb s) n RB).length = ln at *
  go_wp2_with fail
  refine HO.out.mono ?_
  rintro e w11 ⟨rfl, b11⟩
  have A11 := Lib.hid (A2'.out.on b11)
  have B11 := Lib.hid (bel_tr B2.out b11)
  clear HO A2' B2 b11
  go_wp2_with (refine law_store (ty := 28) gr 0 _ zr.toArray xh rfl rfl A11.out (by rw [List.size_toArray, h32.out, z32.out]; omega) (by rw [size_hash, h32.out]) ho32.out ?_; intro w12 P12)
  have L12 := P12.at_
  rw [put_all _ _ (by rw [h32.out, z32.out])] at L12
  refine ret_cell (ty := 28) rfl gr _ xh _ rfl L12 under_hash rfl (by rw [size_hash, h32.out]) rfl ⟨by rw [HXH.out], B11.out.grown P12.grown (by have := B11.out.size; omega) (by have := GR.out; simp; omega)⟩
end Go.Proofs.YtkmjfaaelkmnkaaDoor

/-
  The document's own Number (balefireref06): what it answers.
-/
namespace Go.Proofs.YtkmjfaaelkmnkaaDoor
open Go.RowKit
set_option linter.unusedSimpArgs false
set_option linter.unusedVariables false
set_option maxRecDepth 100000

theorem own_ge {w : World} {base n : Nat} {e : TypeId} {v : Value} {xs : List Value} (h : w.ownsRow base e 1 v n xs) : ∀ k, v.ownBlock = some k → base ≤ k := by
  intro k e'
  rcases own_cases h with ⟨rfl, _⟩ | ⟨g, c, rfl⟩
  · cases e'
  · obtain ⟨_, _, hbg, _⟩ := own_at h; injection e' with e'; subst e'; exact hbg
theorem own_lt {w : World} {base n : Nat} {e : TypeId} {v : Value} {xs : List Value} (h : w.ownsRow base e 1 v n xs) : ∀ k, v.ownBlock = some k → k < w.heap.size := by
  intro k e'
  rcases own_cases h with ⟨rfl, _⟩ | ⟨g, c, rfl⟩
  · cases e'
  · obtain ⟨_, hat, _⟩ := own_at h; injection e' with e'; subst e'; exact hat.lt
theorem own_nilS {w : World} {base n c : Nat} {e : TypeId} {A : Option Addr} {xs : List Value} (h : w.ownsRow base e 1 (.slice A n c) n xs) : A = none → n = 0 ∧ c = 0 := by
  intro e
  rcases own_cases h with ⟨h1, h2, _⟩ | ⟨k, c', h1⟩
  · injection h1 with _ h3 h4; exact ⟨h2, h4⟩
  · injection h1 with h2; rw [h2] at e; cases e
theorem at_rd {w : World} {g : Nat} {t : TypeId} {cs : Array Value} {xs : List Value} (h : At w g t cs) (e : cs = xs.toArray) : Rd w (some ⟨g, 0, none⟩) xs.length xs := by
  subst e
  refine ⟨rfl, fun _ => ⟨g, 0, rfl, h.lt, fun j u hu => ?_⟩⟩
  rw [Nat.zero_add, h.cell]
  simpa using hu
section
variable {P : Program} {ops : Array Oper} {Q : Exit → Act → World → Prop} {rest : List Oper} {a : Act} {w : World} {d : Tmp} {ty : TypeId} {pos : String} {after : Array Edge} {x : Operand}
theorem law_bldB (v : Nat) (h : ∀ w', New w w' 5 #[.int .u8 (v : Nat)] → wpList Tryd.prog ops Q rest (a.put (some d) (.slice (some ⟨w.heap.size, 0, none⟩) 1 1)) w') :
    wpList Tryd.prog ops Q (⟨some d, .buildSlice 22 1 #[(0, .const (.int .u8 (v : Nat)))], ty, pos, after, none⟩ :: rest) a w :=
  law_value rfl (bld1 _ rfl) (h _ (New.mk' _ _ _))
theorem law_bldR (A : Option Addr) (n c : Nat) (hx : a.eval x = .slice A n c) (h : ∀ w', New w w' 22 #[.slice A n c] → wpList Tryd.prog ops Q rest (a.put (some d) (.slice (some ⟨w.heap.size, 0, none⟩) 1 1)) w') :
    wpList Tryd.prog ops Q (⟨some d, .buildSlice 34 1 #[(0, x)], ty, pos, after, none⟩ :: rest) a w :=
  law_value rfl (bld2 _ _ _ hx) (h _ (New.mk' _ _ _))
end
theorem cat_onem (RB : Nat → List Nat) (n x : Nat) : (cat (fun j => putB (onem RB n [x] j)) (n + 1)).length = (cat (fun j => putB (RB j)) n).length + 5 := by
  simp only [cat, List.length_append, putB_len, onem_at]
  rw [cat_congr n (fun j hj => by rw [onem_lt _ _ _ hj])]
  simp
theorem rwide_all (M : Nat) (hM : M < 2 ^ 256) (s : ByteArray) (n : Nat) (RB : Nat → List Nat) (w : World) :
    Calls Tryd.prog 41 #[Nu.num (half s n RB 1), Nu.num (half s n RB 0), Nu.num M] w fun e w' => e = .returned (.tuple #[Nu.num (numOf M s n RB), .int .i64 (errOf M)]) ∧ Below w.heap.size w w' := by
  by_cases h : M = 0
  · subst h
    exact Nu.rwide_zero _ _ w
  · have e1 : numOf M s n RB = Nu.wide (half s n RB 0) (half s n RB 1) % M := if_neg h
    have e2 : errOf M = 0 := if_neg h
    rw [e1, e2]
    by_cases h2 : M < 18446744073709551616
    · exact Nu.rwide_word _ _ _ (half_lt _ _ _ _) (half_lt _ _ _ _) h2 h w
    · refine Nu.rwide_long _ _ _ (half_lt _ _ _ _) (half_lt _ _ _ _) hM (by omega) (fun w => by rw [Nu.eqZ M hM]; simp [h]) (fun w => ?_) w
      have := Nu.rword_any M hM w
      rwa [decide_eq_false h2] at this
end Go.Proofs.YtkmjfaaelkmnkaaDoor
