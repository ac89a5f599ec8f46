/-
  ShasTwo: two sums do not know of one another, in whatever turns they are written.
-/
import Derived.Test.YtdpdpmiepidkoaaDoorLawParts
import Derived.Test.YtdpdpmiepidkoaaDoorAlive
namespace Go.Proofs.YtdpdpmiepidkoaaDoor
open Go.RowKit
set_option linter.unusedSimpArgs false
set_option linter.unusedVariables false

theorem own_keptR {W w : World} {base n : Nat} {e : TypeId} {v : Value} {xs : List Value} {row : Option Nat} (h : W.ownsRow base e 1 v n xs) (hg : W.grownBy w row) (hne : ∀ b, v.ownBlock = some b → row ≠ some b) : w.ownsRow base e 1 v n xs := by
  rcases own_cases h with ⟨rfl, rfl, rfl⟩ | ⟨b, c, rfl⟩
  · exact World.ownsRow_nil _ _ _ _
  · obtain ⟨cur, hgb, hbg, hn, hc, hs, ht⟩ := own_at h
    have := at_own (base := base) (n := n) (c := c) (hgb.grown hg (fun e => hne b rfl e.symm)) hbg hn hc hs
    rwa [ht] at this

set_option maxRecDepth 100000 in
set_option maxHeartbeats 4000000 in
theorem two_walk (A : Option Addr) (n c : Nat) (RA : Nat → Option Addr) (RL RC : Nat → Nat) (RB : Nat → List Nat) (B : Option Addr) (m d : Nat) (tb : List Nat) (w : World) (hn0 : n ≤ 9223372036854775807) (hm0 : m ≤ 9223372036854775807)
    (hR : Rows2 w A n c RA RL RC RB) (hB : Rd w B m (bs tb)) (htb : ∀ y ∈ tb, y < 256) (T : Tabs w) :
    Calls Tryd.prog 7 #[.slice A n c, .slice B m d] w fun e w' => e = .returned (.bool true) ∧ Below w.heap.size w w' := by
  obtain ⟨i0, hi, hz0, hz1, hz2⟩ := info_parts Tryd.info5
  have HR := Lib.hid hR
  have HT := Lib.hid T
  have HB := Lib.hid hB
  have HTB := Lib.hid htb
  have htl : tb.length = m := by have := hB.1; rwa [bs_len] at this
  clear hR T hB htb
  by_cases h40 : n ≤ 40
  · have h40' : ¬ (40 : Int) < (n : Int) := by omega
    by_cases h10 : m ≤ 10000
    · have h10' : ¬ (10000 : Int) < (m : Int) := by omega
      go_enter Tryd.func7, Tryd.ntmps7
      go_wp2_with fail
      refine (alive_ok w HT.out).mono ?_
      rintro e w0 ⟨rfl, b0⟩
      have T0 := Lib.hid (HT.out.on b0)
      have B0 := Lib.hid b0
      clear b0
      go_wp2_with fail
      refine (new_ok w0 T0.out).mono ?_
      rintro e w1 ⟨rfl, s1, b1⟩
      have T1 := Lib.hid (T0.out.on b1)
      have B1 := Lib.hid (bel_tr B0.out b1)
      have hs1 := T0.out.lt1
      have hs2 := B0.out.size
      obtain ⟨ga, hga⟩ : ∃ x, w0.heap.size = x := ⟨_, rfl⟩
      rw [hga] at s1 hs1 hs2 ⊢
      have S1 := Lib.hid s1
      have hgal := s1.lt
      clear s1 b1 hga T0 B0
      go_wp2_with fail
      refine (new_ok w1 T1.out).mono ?_
      rintro e w2 ⟨rfl, s2, b2⟩
      have T2 := Lib.hid (T1.out.on b2)
      have B2 := Lib.hid (bel_tr B1.out b2)
      have S2 := Lib.hid (S1.out.on b2)
      obtain ⟨gb, hgb⟩ : ∃ x, w1.heap.size = x := ⟨_, rfl⟩
      rw [hgb] at s2 hgal ⊢
      have P2 := Lib.hid s2
      have hgbl := s2.lt
      clear s2 b2 hgb T1 B1 S1
      go_wp2_with fail
      go_loopw [7, 8, 9] (fun vx vy s' wr => ∃ (i : Nat) (X Y : List Nat), i ≤ n ∧ s' = .int .i64 i ∧ X.length + Y.length ≤ 30000 ∧ (∀ y ∈ X, y < 256) ∧ (∀ y ∈ Y, y < 256) ∧ wr.ownsRow w2.heap.size 5 1 vx X.length (bs X) ∧ wr.ownsRow w2.heap.size 5 1 vy Y.length (bs Y) ∧ (∀ z, vx.ownBlock = some z → vy.ownBlock ≠ some z) ∧ SumAt wr ga X ∧ SumAt wr gb Y ∧ Tabs wr ∧ w2.heap.size ≤ wr.heap.size ∧ Below w.heap.size w wr) (fun _ _ s' _ => n - (intOf s').toNat)
      case atStart => exact ⟨0, [], [], by omega, rfl, by simp, by simp, by simp, World.ownsRow_nil _ _ _ _, World.ownsRow_nil _ _ _ _, fun z h => (by cases h), S2.out, P2.out, T2.out, Nat.le_refl _, B2.out⟩
      case round =>
        obtain ⟨i, X, Y, hi0, rfl, hxy, hxb, hyb, hox, hoy, hne, hsx, hsy, htab, hsz, hbel⟩ := hrel
        clear S2 P2 T2 B2
        obtain ⟨V, cv, rfl, kx1, kx2⟩ := own_form hox
        obtain ⟨U, cu, rfl, ky1, ky2⟩ := own_form hoy
        unfold maxLen at kx2 ky2
        obtain ⟨nx, hnx⟩ : ∃ x, X.length = x := ⟨_, rfl⟩
        obtain ⟨ny, hny⟩ : ∃ x, Y.length = x := ⟨_, rfl⟩
        rw [hnx] at hxy hox hne kx1 ⊢
        rw [hny] at hxy hoy hne ky1 ⊢
        have XL := Lib.hid hnx
        have YL := Lib.hid hny
        have R1 := Lib.hid (HR.out.below hbel)
        have RB1 := Lib.hid (HB.out.below hbel)
        have XB := Lib.hid hxb
        have YB := Lib.hid hyb
        have OX := Lib.hid hox
        have OY := Lib.hid hoy
        have NE := Lib.hid hne
        have SX := Lib.hid hsx
        have SY := Lib.hid hsy
        have T1 := Lib.hid htab
        have B1 := Lib.hid hbel
        have hBs := hbel.size
        clear hnx hny hxb hyb hox hoy hne hsx hsy htab hbel
        by_cases hlt : i < n
        · have hlt' : (i : Int) < (n : Int) := by omega
          obtain ⟨b, o, rfl, hbl, hcell⟩ := R1.out.cell i hlt
          have hrd := R1.out.rd i hlt
          have hrnc := R1.out.rnc i hlt
          have hrnil := R1.out.rnil i hlt
          have hbyte := R1.out.byte i hlt
          have hfar : ∀ b o, RA i = some ⟨b, o, none⟩ → 0 < RL i → b < w.heap.size := fun b o e hp => by
            obtain ⟨b', o', e', hb', _⟩ := (HR.out.rd i hlt).2 hp
            rw [e] at e'
            injection e' with e'
            injection e' with e1 _
            omega
          have hrl : (RB i).length = RL i := by have := hrd.1; rwa [bs_len] at this
          have HCX := Lib.hid (R1.out.cell i hlt)
          obtain ⟨ra, hra⟩ : ∃ x, RA i = x := ⟨_, rfl⟩
          obtain ⟨rl, hrl'⟩ : ∃ x, RL i = x := ⟨_, rfl⟩
          obtain ⟨rc, hrc⟩ : ∃ x, RC i = x := ⟨_, rfl⟩
          obtain ⟨rb, hrb⟩ : ∃ x, RB i = x := ⟨_, rfl⟩
          rw [hra] at hcell hrd hrnil hfar
          rw [hrl'] at hcell hrd hrnc hrnil hfar hrl
          rw [hrc] at hcell hrnc hrnil
          rw [hrb] at hrd hbyte hrl
          have HBY := Lib.hid hbyte
          have HNIL := Lib.hid hrnil
          have HFAR := Lib.hid hfar
          have HRD := Lib.hid hrd
          have HRL := Lib.hid hrl
          have HRA := Lib.hid hra
          have HRLE := Lib.hid hrl'
          have HRBB := Lib.hid hrb
          have HRC := Lib.hid hrc
          have HRN := Lib.hid hrnc
          have hrl2 := hrnc.2.2
          have hrb1 := hrnc.1
          have hrb2 := hrnc.2.1
          clear hbyte hrnil hfar hrd hrl hra hrl' hrc hrb hrnc
          by_cases hbig : 30000 < nx + ny + rl
          · have hbig' : (30000 : Int) < (nx : Int) + (ny : Int) + (rl : Int) := by omega
            go_wp2
            go_ret
            exact ⟨rfl, B1.out⟩
          · have hbig' : ¬ (30000 : Int) < (nx : Int) + (ny : Int) + (rl : Int) := by omega
            by_cases hiM : i < m
            · have hiM' : (i : Int) < (m : Int) := by omega
              obtain ⟨b2, o2, rfl, hb2, hc2⟩ := RB1.out.2 (by omega)
              have hcb := hc2 i _ (bs_at tb i (by omega))
              have hx8 : tb.getD i 0 < 256 := by rw [List.getD_eq_getElem?_getD, List.getElem?_eq_getElem (by omega)]; exact HTB.out _ (List.getElem_mem (by omega))
              generalize tb.getD i 0 = x at *
              clear hc2
              by_cases hodd : x % 2 = 1
              · have hodd' : (x : Int) % 2 = 1 := by omega
                go_wp2_with fail
                have W4 := Lib.hid (write_any gb ra rl rc Y rb wr SY.out HRD.out hrb1 hrb2 (fun b o e hp => by have := HFAR.out b o e hp; omega) HBY.out T1.out (by omega) (by omega) (by rw [YL.out]; omega))
                refine W4.out.mono ?_
                rintro e w4 ⟨rfl, s4, g4⟩
                have S4 := Lib.hid s4
                have Q4 := Lib.hid (SX.out.grown g4 (by omega))
                have T4 := Lib.hid (T1.out.grown g4 (by omega) (by omega))
                have B4 : Hid (Below w.heap.size w w4) := Lib.hid (B1.out.grown g4 B1.out.size (by simp; omega))
                have hV : ∀ z, (Value.slice U ny cu).ownBlock = some z → w2.heap.size ≤ z ∧ z < wr.heap.size := fun z h => OY.out.lt z h
                have hU : ∀ z, (Value.slice V nx cv).ownBlock = some z → w2.heap.size ≤ z ∧ z < wr.heap.size := fun z h => OX.out.lt z h
                have M4 := Lib.hid (own_kept OY.out g4 (fun e => by have := hV _ e; omega))
                have K4 := Lib.hid (own_kept OX.out g4 (fun e => by have := hU _ e; omega))
                have R4 := Lib.hid (HR.out.below B4.out)
                obtain ⟨b', o', e', _, c4⟩ := R4.out.cell i hlt
                injection e' with e'
                injection e' with e1 e2
                subst e1 e2
                rw [HRA.out, HRLE.out, HRC.out] at c4
                have rd4 := R4.out.rd i hlt
                rw [HRA.out, HRLE.out, HRBB.out] at rd4
                have RD4 := Lib.hid rd4
                have hsz4 := g4.size
                clear s4 g4 W4 rd4 hcell
                go_wp2_with (at_builtin; refine wpList_append_rd2 _ rfl (.tmp 61) (.tmp 65) 22 rfl w2.heap.size 5 i0 (.int .u8 0) 1 Tryd.underlying22 hi hz0 hz1 hz2 rfl (.slice U ny cu) ny _ rfl M4.out ra rl rc _ rfl HNIL.out RD4.out (bs_one _) (by unfold maxLen; omega) (by omega) (by omega) ?_; intro v6 w6 hown6 hgrow6 hcase6; have O6 := Lib.hid hown6; have G6 := Lib.hid hgrow6; have K6 := Lib.hid hcase6; clear hown6 hgrow6 hcase6)
                have O7 : Hid (w6.ownsRow w2.heap.size 5 1 v6 (Y ++ rb).length (bs (Y ++ rb))) := Lib.hid (by rw [List.length_append, YL.out, HRL.out, bs_append]; exact O6.out)
                have K7 : Hid (w6.ownsRow w2.heap.size 5 1 (.slice V nx cv) X.length (bs X)) := Lib.hid (by rw [XL.out]; exact own_keptR K4.out G6.out (fun b hb => NE.out b hb))
                have S6 := Lib.hid (S4.out.grownR G6.out (fun e => by have := hV _ e; omega))
                have Q6 := Lib.hid (Q4.out.grownR G6.out (fun e => by have := hV _ e; omega))
                have T6 := Lib.hid (T4.out.grownR G6.out (fun e => by have := hV _ e; omega) (fun e => by have := hV _ e; omega))
                have B6 : Hid (Below w.heap.size w w6) := Lib.hid (B4.out.grown G6.out B4.out.size (fun x hx => by have := hV x hx; omega))
                have N6 : Hid (∀ z, (Value.slice V nx cv).ownBlock = some z → v6.ownBlock ≠ some z) := Lib.hid (fun z hz hy => by
                  rcases K6.out with h | h
                  · rw [h] at hy; exact NE.out z hz hy
                  · rw [h] at hy; injection hy with h3; have := hU z hz; omega)
                have hsz6 : w2.heap.size ≤ w6.heap.size := by have := G6.out.size; omega
                have BY : Hid (∀ y ∈ Y ++ rb, y < 256) := Lib.hid (fun y hy => by
                  rcases List.mem_append.1 hy with h | h
                  · exact YB.out y h
                  · exact HBY.out y h)
                have LS : (Y ++ rb).length + X.length ≤ 30000 := by rw [List.length_append, YL.out, HRL.out, XL.out]; omega
                clear O6 G6 K6 S4 Q4 T4 B4 hV hU M4 K4 R4 c4 RD4
                go_roundw
                case rel => exact ⟨i + 1, X, Y ++ rb, by omega, by go_num, by omega, XB.out, BY.out, K7.out, O7.out, N6.out, Q6.out, S6.out, T6.out, hsz6, B6.out⟩
                case measure => simp [intOf]; omega
              · have hodd' : ¬ (x : Int) % 2 = 1 := by omega
                go_wp2_with fail
                have W4 := Lib.hid (write_any ga ra rl rc X rb wr SX.out HRD.out hrb1 hrb2 (fun b o e hp => by have := HFAR.out b o e hp; omega) HBY.out T1.out (by omega) (by omega) (by rw [XL.out]; omega))
                refine W4.out.mono ?_
                rintro e w4 ⟨rfl, s4, g4⟩
                have S4 := Lib.hid s4
                have Q4 := Lib.hid (SY.out.grown g4 (by omega))
                have T4 := Lib.hid (T1.out.grown g4 (by omega) (by omega))
                have B4 : Hid (Below w.heap.size w w4) := Lib.hid (B1.out.grown g4 B1.out.size (by simp; omega))
                have hV : ∀ z, (Value.slice V nx cv).ownBlock = some z → w2.heap.size ≤ z ∧ z < wr.heap.size := fun z h => OX.out.lt z h
                have hU : ∀ z, (Value.slice U ny cu).ownBlock = some z → w2.heap.size ≤ z ∧ z < wr.heap.size := fun z h => OY.out.lt z h
                have M4 := Lib.hid (own_kept OX.out g4 (fun e => by have := hV _ e; omega))
                have K4 := Lib.hid (own_kept OY.out g4 (fun e => by have := hU _ e; omega))
                have R4 := Lib.hid (HR.out.below B4.out)
                obtain ⟨b', o', e', _, c4⟩ := R4.out.cell i hlt
                injection e' with e'
                injection e' with e1 e2
                subst e1 e2
                rw [HRA.out, HRLE.out, HRC.out] at c4
                have rd4 := R4.out.rd i hlt
                rw [HRA.out, HRLE.out, HRBB.out] at rd4
                have RD4 := Lib.hid rd4
                have hsz4 := g4.size
                clear s4 g4 W4 rd4 hcell
                go_wp2_with (at_builtin; refine wpList_append_rd2 _ rfl (.tmp 73) (.tmp 77) 22 rfl w2.heap.size 5 i0 (.int .u8 0) 1 Tryd.underlying22 hi hz0 hz1 hz2 rfl (.slice V nx cv) nx _ rfl M4.out ra rl rc _ rfl HNIL.out RD4.out (bs_one _) (by unfold maxLen; omega) (by omega) (by omega) ?_; intro v6 w6 hown6 hgrow6 hcase6; have O6 := Lib.hid hown6; have G6 := Lib.hid hgrow6; have K6 := Lib.hid hcase6; clear hown6 hgrow6 hcase6)
                have O7 : Hid (w6.ownsRow w2.heap.size 5 1 v6 (X ++ rb).length (bs (X ++ rb))) := Lib.hid (by rw [List.length_append, XL.out, HRL.out, bs_append]; exact O6.out)
                have K7 : Hid (w6.ownsRow w2.heap.size 5 1 (.slice U ny cu) Y.length (bs Y)) := Lib.hid (by rw [YL.out]; exact own_keptR K4.out G6.out (fun b hb => fun e => NE.out b e hb))
                have S6 := Lib.hid (S4.out.grownR G6.out (fun e => by have := hV _ e; omega))
                have Q6 := Lib.hid (Q4.out.grownR G6.out (fun e => by have := hV _ e; omega))
                have T6 := Lib.hid (T4.out.grownR G6.out (fun e => by have := hV _ e; omega) (fun e => by have := hV _ e; omega))
                have B6 : Hid (Below w.heap.size w w6) := Lib.hid (B4.out.grown G6.out B4.out.size (fun x hx => by have := hV x hx; omega))
                have N6 : Hid (∀ z, v6.ownBlock = some z → (Value.slice U ny cu).ownBlock ≠ some z) := Lib.hid (fun z hz hy => by
                  rcases K6.out with h | h
                  · rw [h] at hz; exact NE.out z hz hy
                  · rw [h] at hz; injection hz with h3; have := hU z hy; omega)
                have hsz6 : w2.heap.size ≤ w6.heap.size := by have := G6.out.size; omega
                have BY : Hid (∀ y ∈ X ++ rb, y < 256) := Lib.hid (fun y hy => by
                  rcases List.mem_append.1 hy with h | h
                  · exact XB.out y h
                  · exact HBY.out y h)
                have LS : (X ++ rb).length + Y.length ≤ 30000 := by rw [List.length_append, XL.out, HRL.out, YL.out]; omega
                clear O6 G6 K6 S4 Q4 T4 B4 hV hU M4 K4 R4 c4 RD4
                go_roundw
                case rel => exact ⟨i + 1, X ++ rb, Y, by omega, by go_num, LS, BY.out, YB.out, O7.out, K7.out, N6.out, S6.out, Q6.out, T6.out, hsz6, B6.out⟩
                case measure => simp [intOf]; omega
            · have hiM' : ¬ (i : Int) < (m : Int) := by omega
              go_wp2_with fail
              have W4 := Lib.hid (write_any ga ra rl rc X rb wr SX.out HRD.out hrb1 hrb2 (fun b o e hp => by have := HFAR.out b o e hp; omega) HBY.out T1.out (by omega) (by omega) (by rw [XL.out]; omega))
              refine W4.out.mono ?_
              rintro e w4 ⟨rfl, s4, g4⟩
              have S4 := Lib.hid s4
              have Q4 := Lib.hid (SY.out.grown g4 (by omega))
              have T4 := Lib.hid (T1.out.grown g4 (by omega) (by omega))
              have B4 : Hid (Below w.heap.size w w4) := Lib.hid (B1.out.grown g4 B1.out.size (by simp; omega))
              have hV : ∀ z, (Value.slice V nx cv).ownBlock = some z → w2.heap.size ≤ z ∧ z < wr.heap.size := fun z h => OX.out.lt z h
              have hU : ∀ z, (Value.slice U ny cu).ownBlock = some z → w2.heap.size ≤ z ∧ z < wr.heap.size := fun z h => OY.out.lt z h
              have M4 := Lib.hid (own_kept OX.out g4 (fun e => by have := hV _ e; omega))
              have K4 := Lib.hid (own_kept OY.out g4 (fun e => by have := hU _ e; omega))
              have R4 := Lib.hid (HR.out.below B4.out)
              obtain ⟨b', o', e', _, c4⟩ := R4.out.cell i hlt
              injection e' with e'
              injection e' with e1 e2
              subst e1 e2
              rw [HRA.out, HRLE.out, HRC.out] at c4
              have rd4 := R4.out.rd i hlt
              rw [HRA.out, HRLE.out, HRBB.out] at rd4
              have RD4 := Lib.hid rd4
              have hsz4 := g4.size
              clear s4 g4 W4 rd4 hcell
              go_wp2_with (at_builtin; refine wpList_append_rd2 _ rfl (.tmp 73) (.tmp 77) 22 rfl w2.heap.size 5 i0 (.int .u8 0) 1 Tryd.underlying22 hi hz0 hz1 hz2 rfl (.slice V nx cv) nx _ rfl M4.out ra rl rc _ rfl HNIL.out RD4.out (bs_one _) (by unfold maxLen; omega) (by omega) (by omega) ?_; intro v6 w6 hown6 hgrow6 hcase6; have O6 := Lib.hid hown6; have G6 := Lib.hid hgrow6; have K6 := Lib.hid hcase6; clear hown6 hgrow6 hcase6)
              have O7 : Hid (w6.ownsRow w2.heap.size 5 1 v6 (X ++ rb).length (bs (X ++ rb))) := Lib.hid (by rw [List.length_append, XL.out, HRL.out, bs_append]; exact O6.out)
              have K7 : Hid (w6.ownsRow w2.heap.size 5 1 (.slice U ny cu) Y.length (bs Y)) := Lib.hid (by rw [YL.out]; exact own_keptR K4.out G6.out (fun b hb => fun e => NE.out b e hb))
              have S6 := Lib.hid (S4.out.grownR G6.out (fun e => by have := hV _ e; omega))
              have Q6 := Lib.hid (Q4.out.grownR G6.out (fun e => by have := hV _ e; omega))
              have T6 := Lib.hid (T4.out.grownR G6.out (fun e => by have := hV _ e; omega) (fun e => by have := hV _ e; omega))
              have B6 : Hid (Below w.heap.size w w6) := Lib.hid (B4.out.grown G6.out B4.out.size (fun x hx => by have := hV x hx; omega))
              have N6 : Hid (∀ z, v6.ownBlock = some z → (Value.slice U ny cu).ownBlock ≠ some z) := Lib.hid (fun z hz hy => by
                rcases K6.out with h | h
                · rw [h] at hz; exact NE.out z hz hy
                · rw [h] at hz; injection hz with h3; have := hU z hy; omega)
              have hsz6 : w2.heap.size ≤ w6.heap.size := by have := G6.out.size; omega
              have BY : Hid (∀ y ∈ X ++ rb, y < 256) := Lib.hid (fun y hy => by
                rcases List.mem_append.1 hy with h | h
                · exact XB.out y h
                · exact HBY.out y h)
              have LS : (X ++ rb).length + Y.length ≤ 30000 := by rw [List.length_append, XL.out, HRL.out, YL.out]; omega
              clear O6 G6 K6 S4 Q4 T4 B4 hV hU M4 K4 R4 c4 RD4
              go_roundw
              case rel => exact ⟨i + 1, X ++ rb, Y, by omega, by go_num, LS, BY.out, YB.out, O7.out, K7.out, N6.out, S6.out, Q6.out, T6.out, hsz6, B6.out⟩
              case measure => simp [intOf]; omega
        · obtain rfl : i = n := by omega
          have hlt' : ¬ (i : Int) < (i : Int) := by omega
          have nilX : V = none → nx = 0 ∧ cv = 0 := fun e => by
            rcases own_cases OX.out with ⟨e1, h2, _⟩ | ⟨g', c', e1⟩
            · injection e1 with _ _ e3; exact ⟨h2, e3⟩
            · injection e1 with e1 _ _; rw [e] at e1; cases e1
          have nilY : U = none → ny = 0 ∧ cu = 0 := fun e => by
            rcases own_cases OY.out with ⟨e1, h2, _⟩ | ⟨g', c', e1⟩
            · injection e1 with _ _ e3; exact ⟨h2, e3⟩
            · injection e1 with e1 _ _; rw [e] at e1; cases e1
          have H8 := Lib.hid (hash_ok ga X wr SX.out T1.out (by rw [XL.out]; omega))
          go_wp2_with fail
          refine H8.out.mono ?_
          rintro e w8 ⟨rfl, b8⟩
          have T8 := Lib.hid (T1.out.on b8)
          have B8 := Lib.hid (bel_tr B1.out b8)
          have SY8 := Lib.hid (SY.out.on b8)
          have OX8 := Lib.hid (own_on OX.out b8 (Nat.le_refl _))
          have OY8 := Lib.hid (own_on OY.out b8 (Nat.le_refl _))
          have RO := Lib.hid (of_ok V nx cv X w8 (Rd.own OX8.out) kx1 (by omega) XB.out T8.out (by omega))
          have EQ := eqH (sha X) (sha_len _)
          obtain ⟨xs9, hxs9⟩ : ∃ x, bs (sha X) = x := ⟨_, rfl⟩
          rw [hxs9] at RO EQ ⊢
          have HEQ := Lib.hid EQ
          clear hxs9 EQ b8 SX SY T1 B1 OX OY H8
          go_wp2_with fail
          refine RO.out.mono ?_
          rintro e w9 ⟨rfl, b9⟩
          have T9 := Lib.hid (T8.out.on b9)
          have B9 := Lib.hid (bel_tr B8.out b9)
          have SY9 := Lib.hid (SY8.out.on b9)
          have OY9 := Lib.hid (own_on OY8.out b9 (Nat.le_refl _))
          have EQ := HEQ.out
          have H10 := Lib.hid (hash_ok gb Y w9 SY9.out T9.out (by rw [YL.out]; omega))
          clear T8 B8 SY8 OX8 OY8 b9 RO HEQ
          go_wp2_with (simp only [EQ])
          refine H10.out.mono ?_
          rintro e w10 ⟨rfl, b10⟩
          have T10 := Lib.hid (T9.out.on b10)
          have B10 := Lib.hid (bel_tr B9.out b10)
          have OY10 := Lib.hid (own_on OY9.out b10 (Nat.le_refl _))
          have RO := Lib.hid (of_ok U ny cu Y w10 (Rd.own OY10.out) ky1 (by omega) YB.out T10.out (by omega))
          clear EQ
          have EQ := eqH (sha Y) (sha_len _)
          obtain ⟨xs9, hxs9⟩ : ∃ x, bs (sha Y) = x := ⟨_, rfl⟩
          rw [hxs9] at RO EQ ⊢
          have HEQ := Lib.hid EQ
          clear hxs9 EQ b10 T9 B9 OY9 SY9 H10
          go_wp2_with fail
          refine RO.out.mono ?_
          rintro e w11 ⟨rfl, b11⟩
          have B11 := Lib.hid (bel_tr B10.out b11)
          have EQ := HEQ.out
          clear b11 RO HEQ T10 B10 OY10
          go_wp2_with (simp only [EQ])
          go_ret
          exact ⟨rfl, B11.out⟩
    · have h10' : (10000 : Int) < (m : Int) := by omega
      go_enter Tryd.func7, Tryd.ntmps7
      go_wp2_with fail
      refine (alive_ok w HT.out).mono ?_
      rintro e w0 ⟨rfl, b0⟩
      have T0 := Lib.hid (HT.out.on b0)
      have B0 := Lib.hid b0
      clear b0
      go_wp2_with fail
      refine (alive_ok w0 T0.out).mono ?_
      rintro e w1 ⟨rfl, b1⟩
      have B1 := Lib.hid (bel_tr B0.out b1)
      clear b1
      go_wp2
      go_ret
      exact ⟨rfl, B1.out⟩
  · have h40' : (40 : Int) < (n : Int) := by omega
    go_enter Tryd.func7, Tryd.ntmps7
    go_wp2_with fail
    refine (alive_ok w HT.out).mono ?_
    rintro e w0 ⟨rfl, b0⟩
    have T0 := Lib.hid (HT.out.on b0)
    have B0 := Lib.hid b0
    clear b0
    go_wp2_with fail
    refine (alive_ok w0 T0.out).mono ?_
    rintro e w1 ⟨rfl, b1⟩
    have B1 := Lib.hid (bel_tr B0.out b1)
    clear b1
    go_wp2
    go_ret
    exact ⟨rfl, B1.out⟩
end Go.Proofs.YtdpdpmiepidkoaaDoor
