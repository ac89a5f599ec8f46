/-
  ShasParts: whatever is written, in whatever parts, the hash asked for behind each of them is exactly the documented one of all so far.
-/
import Derived.Test.YtdpdpmiepidkoaaDoorSize
namespace Go.Proofs.YtdpdpmiepidkoaaDoor
open Go.RowKit
set_option linter.unusedSimpArgs false
set_option linter.unusedVariables false

def cat (RB : Nat → List Nat) : Nat → List Nat
  | 0 => []
  | k + 1 => cat RB k ++ RB k
/-- append onto a row of the call's own: in its place, or in a new block -/
theorem wpList_append_rd2 {P : Program} (w : World) {ops : Array Oper} {rest : List Oper} {o : Oper} {a : Act} {Q : Exit → Act → World → Prop} (hgd : o.guard = none) (s x : Operand) (t : TypeId)
    (ho : o.op = .call { callee := .builtin .append, args := #[s, x], argTypes := #[t, t] })
    (base : Nat) (e : TypeId) (i : TypeInfo) (z : Value) (bytes : Nat) (ht : P.underlying t = some (.slice e)) (hi : P.info? e = some i) (hz : i.zero = some z)
    (hsize : i.size = 1) (hby : i.bytes = bytes) (hzs : z.cells.size = 1)
    (v : Value) (n : Nat) (xs : List Value) (hs : a.eval s = v) (hown : w.ownsRow base e 1 v n xs)
    (A : Option Addr) (m c : Nat) (news : List Value) (hx : a.eval x = .slice A m c) (hnil : A = none → m = 0 ∧ c = 0) (hr : Rd w A m news) (h1 : ∀ u ∈ news, u.oneCell' = true)
    (h63 : n + m ≤ maxLen) (hbytes : (n + m) * bytes ≤ 140737488355328) (hbase : base ≤ w.heap.size)
    (h : ∀ v' w', w'.ownsRow base e 1 v' (n + m) (xs ++ news) → w.grownBy w' v.ownBlock → (v'.ownBlock = v.ownBlock ∨ v'.ownBlock = some w.heap.size) → wpList P ops Q rest (a.put o.dst v') w') :
    wpList P ops Q (o :: rest) a w := by
  cases A with
  | none =>
    obtain ⟨rfl, rfl⟩ := hnil rfl
    have hn : news = [] := List.eq_nil_of_length_eq_zero hr.1
    subst hn
    exact wpList_append_own_none hgd s x t ho base e i 1 ht hi v n xs hs hown hx (h v w (by simpa using hown) (World.grownBy.refl _ _) (.inl rfl))
  | some ad => exact wpList_append_own_at w hgd s x t ho base e i z 1 bytes ht hi hz hsize hby hzs (by decide) v n xs hs hown ad m c news hx (by rw [hr.1, Nat.mul_one]) (hr.src ad rfl) h1 h63 hbytes hbase fun v' w' h2 h3 _ h5 => h v' w' h2 h3 h5
theorem grownR {w w' : World} {g : Nat} {t : TypeId} {cs : Array Value} {row : Option Nat} (h : At w g t cs) (hg : w.grownBy w' row) (hne : row ≠ some g) : At w' g t cs := h.grown hg (fun e => hne e.symm)
theorem SumAt.grownR {w w' : World} {g : Nat} {l : List Nat} {row : Option Nat} (h : SumAt w g l) (hg : w.grownBy w' row) (hne : row ≠ some g) : SumAt w' g l := by
  obtain ⟨B, h1, h2, h3, h4⟩ := h
  exact ⟨B, h1, h2, h3.grown hg (fun e => hne e.symm), h4⟩
theorem Tabs.grownR {w w' : World} {row : Option Nat} (h : Tabs w) (hg : w.grownBy w' row) (h0 : row ≠ some 0) (h1 : row ≠ some 1) : Tabs w' := by
  refine ⟨fun i hi => ?_, fun j v hv => ?_⟩
  · have := h.k i hi
    have hb := hg.block 1 h.lt1 (fun e => h1 e.symm)
    simpa [World.cell?, hb] using this
  · have := h.h j v hv
    have hb := hg.block 0 (by have := h.lt1; omega) (fun e => h0 e.symm)
    simpa [World.cell?, hb] using this
theorem own_on {W w : World} {N base n : Nat} {e : TypeId} {v : Value} {xs : List Value} (h : W.ownsRow base e 1 v n xs) (hb : Below W.heap.size W w) (hN : N ≤ base) : w.ownsRow N e 1 v n xs := by
  rcases own_cases h with ⟨rfl, rfl, rfl⟩ | ⟨g, c, rfl⟩
  · exact World.ownsRow_nil _ _ _ _
  · obtain ⟨cur, hg, hbg, hn, hc, hs, ht⟩ := own_at h
    have := at_own (base := N) (n := n) (c := c) (hg.on hb) (by omega) hn hc hs
    rwa [ht] at this
theorem own_kept {W w : World} {base n g : Nat} {e : TypeId} {v : Value} {xs : List Value} (h : W.ownsRow base e 1 v n xs) (hg : W.grownBy w (some g)) (hne : v.ownBlock ≠ some g) : w.ownsRow base e 1 v n xs := by
  rcases own_cases h with ⟨rfl, rfl, rfl⟩ | ⟨b, c, rfl⟩
  · exact World.ownsRow_nil _ _ _ _
  · obtain ⟨cur, hgb, hbg, hn, hc, hs, ht⟩ := own_at h
    have := at_own (base := base) (n := n) (c := c) (hgb.grown hg (fun e => hne e)) hbg hn hc hs
    rwa [ht] at this
theorem Rows2.later {w' : World} {W : World} {g : Nat} {A : Option Addr} {n c : Nat} {RA : Nat → Option Addr} {RL RC : Nat → Nat} {RB : Nat → List Nat} (h : Rows2 W A n c RA RL RC RB) (hb : Below W.heap.size W w') : Rows2 w' A n c RA RL RC RB := h.below hb
theorem Twin.grown {w w' : World} {g k : Nat} {l : List Nat} (h : Twin w g l) (hg : w.grownBy w' (some k)) (hne : g ≠ k) : Twin w' g l := At.grown h hg (by simpa using hne)

set_option maxRecDepth 100000 in
set_option maxHeartbeats 4000000 in
theorem parts_walk (A : Option Addr) (n c : Nat) (RA : Nat → Option Addr) (RL RC : Nat → Nat) (RB : Nat → List Nat) (w : World) (hn0 : n ≤ 9223372036854775807) (hR : Rows2 w A n c RA RL RC RB) (T : Tabs w) :
    Calls Tryd.prog 4 #[.slice A n c] w fun e w' => e = .returned (.bool true) ∧ Below w.heap.size w w' := by
  obtain ⟨i0, hi, hz0, hz1, hz2⟩ := info_parts Tryd.info5
  have HR := Lib.hid hR
  have HT := Lib.hid T
  clear hR T
  by_cases h60 : n ≤ 60
  · have h60' : ¬ (60 : Int) < (n : Int) := by omega
    go_enter Tryd.func4, Tryd.ntmps4
    go_wp2_with fail
    refine (rsize_ok A n c RA RL RC RB w h60 HR.out).mono ?_
    rintro e w' ⟨⟨s, rfl, hs, htot⟩, rfl⟩
    have C := beyond_one w.heap.size s (w.alloc (.cells #[.int .i64 (s : Nat)] 3)) hs ((At.new w 3 #[.int .i64 (s : Nat)]).cell 0)
    go_wp2_with fail
    refine C.mono ?_
    rintro e w' ⟨rfl, rfl⟩
    have b1 : Below w.heap.size w (w.alloc (.cells #[.int .i64 (s : Nat)] 3)) := gr_alloc (Below.refl _ _) _
    have R1 := Lib.hid (HR.out.below b1)
    have T1 := Lib.hid (HT.out.on b1)
    have B1 := Lib.hid b1
    clear C b1
    generalize (w.alloc (.cells #[.int .i64 (s : Nat)] 3)) = w1 at *
    by_cases hbig : 1048576 < s
    · rw [decide_eq_true hbig]
      go_wp2
      go_ret
      exact ⟨rfl, B1.out⟩
    · rw [decide_eq_false hbig]
      have HTO := Lib.hid (htot (by omega))
      clear htot hbig hs
      go_wp2_with fail
      refine (new_ok w1 T1.out).mono ?_
      rintro e w2 ⟨rfl, s2, b2⟩
      have S2 := Lib.hid s2
      have R2 := Lib.hid (R1.out.below b2)
      have T2 := Lib.hid (T1.out.on b2)
      have B2 := Lib.hid (bel_tr B1.out b2)
      have hs1 := T1.out.lt1
      have hs2 := B1.out.size
      obtain ⟨g, hg⟩ : ∃ x, w1.heap.size = x := ⟨_, rfl⟩
      rw [hg] at S2 hs1 hs2 ⊢
      have hgl := S2.out.lt
      clear s2 b2 hg B1 R1 T1
      go_wp2_with fail
      go_loopw [4, 5] (fun v s' wr => ∃ i : Nat, i ≤ n ∧ s' = .int .i64 i ∧ (cat RB i).length = tot RL i ∧ (∀ y ∈ cat RB i, y < 256) ∧ wr.ownsRow w2.heap.size 5 1 v (tot RL i) (bs (cat RB i)) ∧ SumAt wr g (cat RB i) ∧ Tabs wr ∧ w2.heap.size ≤ wr.heap.size ∧ Below w.heap.size w wr) (fun _ s' _ => n - (intOf s').toNat)
      case atStart => exact ⟨0, by omega, rfl, rfl, by simp [cat], World.ownsRow_nil _ _ _ _, S2.out, T2.out, Nat.le_refl _, B2.out⟩
      case round =>
        obtain ⟨i, hi0, rfl, hcl, hcb, hown, hsum, htab, hsz, hbel⟩ := hrel
        have hrow := HR.out.below hbel
        clear S2 R2 T2 B2
        obtain ⟨V, cv, rfl, hcv1, hcv2⟩ := own_form hown
        have hti : tot RL i ≤ 1048576 := Nat.le_trans (tot_le RL hi0) HTO.out
        have HCB := Lib.hid hcb
        have HCL := Lib.hid hcl
        have O1 := Lib.hid hown
        have S1 := Lib.hid hsum
        have R1 := Lib.hid hrow
        have T1 := Lib.hid htab
        have B1 := Lib.hid hbel
        clear hcb hcl hown hsum hrow htab hbel hcv1 hcv2
        by_cases hlt : i < n
        · have hlt' : (i : Int) < (n : Int) := by omega
          by_cases hbig : 20000 < tot RL i
          · have hbig' : (20000 : Int) < (tot RL i : Int) := by omega
            generalize tot RL i = ti at *
            go_wp2
            go_ret
            exact ⟨rfl, B1.out⟩
          · have hbig' : ¬ (20000 : Int) < (tot RL i : Int) := by omega
            have htn : tot RL (i + 1) ≤ 1048576 := Nat.le_trans (tot_le RL hlt) HTO.out
            have hti1 : tot RL (i + 1) = tot RL i + RL i := rfl
            rw [hti1] at htn
            obtain ⟨b, o, rfl, hbl, hcell⟩ := R1.out.cell i hlt
            have hrd := R1.out.rd i hlt
            have hrnc := R1.out.rnc i hlt
            have hrnil := R1.out.rnil i hlt
            have hbyte := R1.out.byte i hlt
            have hrl : (RB i).length = RL i := by have := hrd.1; rwa [bs_len] at this
            have HCAT : Hid (cat RB (i + 1) = cat RB i ++ RB i) := Lib.hid rfl
            have HTI : Hid (tot RL (i + 1) = tot RL i + RL i) := Lib.hid rfl
            have HRLn := Lib.hid hrl
            have HBY := Lib.hid hbyte
            have HNIL := Lib.hid hrnil
            obtain ⟨acc, hacc⟩ : ∃ x, cat RB i = x := ⟨_, rfl⟩
            obtain ⟨ti, hti'⟩ : ∃ x, tot RL i = x := ⟨_, rfl⟩
            obtain ⟨ra, hra⟩ : ∃ x, RA i = x := ⟨_, rfl⟩
            obtain ⟨rl, hrl'⟩ : ∃ x, RL i = x := ⟨_, rfl⟩
            obtain ⟨rc, hrc⟩ : ∃ x, RC i = x := ⟨_, rfl⟩
            obtain ⟨rb, hrb⟩ : ∃ x, RB i = x := ⟨_, rfl⟩
            rw [hacc] at HCB HCL O1 S1 HCAT
            rw [hti'] at hti hbig hbig' htn HCL O1 HTI ⊢
            rw [hra] at hcell hrd HNIL
            rw [hrl'] at hcell hrd hrnc htn HTI HRLn HNIL
            rw [hrc] at hcell hrnc HNIL
            rw [hrb] at hrd HRLn HBY HCAT
            have HRA := Lib.hid hra
            have HRLE := Lib.hid hrl'
            have HRC := Lib.hid hrc
            have HRB := Lib.hid hrb
            clear hacc hti' hra hrl' hrc hrb hti1 hrl hbyte hrnil
            have C1 := Lib.hid (twin_ok ra rl rc rb wr (by omega) hrd)
            have HRD := Lib.hid hrd
            clear hrd
            go_wp2_with fail
            refine C1.out.mono ?_
            rintro e w3 ⟨rfl, tw3, b3⟩
            obtain ⟨gt, hgt⟩ : ∃ x, wr.heap.size = x := ⟨_, rfl⟩
            rw [hgt] at tw3 hsz hbl ⊢
            have trd := tw3.rd
            rw [HRLn.out] at trd
            have tlt := At.lt tw3
            have c3 := cell_on b3 hcell
            have S3 := Lib.hid (S1.out.on b3)
            have T3 := Lib.hid (T1.out.on b3)
            have RD3 := Lib.hid (HRD.out.below b3)
            have O3 := Lib.hid (own_on O1.out b3 (Nat.le_refl _))
            have B3 := Lib.hid (bel_tr B1.out b3)
            have hsz3 : gt ≤ w3.heap.size := by have := b3.size; omega
            have hown1 := O1.out.lt
            have hgne : ∀ x, (Value.slice V ti cv).ownBlock = some x → x ≠ g ∧ x ≠ gt := fun x hx => by have := hown1 x hx; omega
            have W4 := Lib.hid (write_any g (some ⟨gt, 0, none⟩) rl (rl + 1) acc rb w3 S3.out trd (by omega) (by omega) (fun b o e _ => by injection e with e; injection e with e1 _; omega) HBY.out T3.out (by omega) (by omega) (by rw [HCL.out]; omega))
            have TW3 := Lib.hid tw3
            have hgtg : gt ≠ g := by omega
            have Hgne := Lib.hid hgne
            have HRN := Lib.hid hrnc
            have HBW := Lib.hid (show b < w3.heap.size by omega)
            have hbg : b < gt := hbl
            have hbng : b ≠ g ∨ b = g := by omega
            clear C1 b3 hgt trd tlt tw3 hown1 hgne S3 T1 HRD S1 O1 hcell hrnc
            go_wp2_with fail
            refine W4.out.mono ?_
            rintro e w4 ⟨rfl, s4, g4⟩
            have S4 := Lib.hid s4
            have T4 := Lib.hid (T3.out.grown g4 (by omega) (by omega))
            have B4 : Hid (Below w.heap.size w w4) := Lib.hid (B3.out.grown g4 (by have := B3.out.size; omega) (by simp; omega))
            have TW4 := Lib.hid (TW3.out.grown g4 hgtg)
            have O4 := Lib.hid (own_kept O3.out g4 (fun e => (Hgne.out g e).1 rfl))
            have R4 := Lib.hid (HR.out.below B4.out)
            have hsz4 := g4.size
            obtain ⟨b', o', e', _, c4⟩ := R4.out.cell i hlt
            injection e' with e'
            injection e' with e1 e2
            subst e1 e2
            rw [HRA.out, HRLE.out, HRC.out] at c4
            have rd4 := R4.out.rd i hlt
            rw [HRA.out, HRLE.out, HRB.out] at rd4
            have RD4 := Lib.hid rd4
            have L4 := Lib.hid (left_ok ra rl rc gt rb w4 (by omega) rd4 TW4.out)
            clear s4 g4 c3 W4 T3 B3 TW3 O3 rd4 R4
            go_wp2_with fail
            refine L4.out.mono ?_
            rintro e w5 ⟨rfl, b5⟩
            have c5 := cell_on b5 c4
            have S5 := Lib.hid (S4.out.on b5)
            have T5 := Lib.hid (T4.out.on b5)
            have B5 := Lib.hid (bel_tr B4.out b5)
            have TW5 := Lib.hid (TW4.out.on b5)
            have O5 := Lib.hid (own_on O4.out b5 (Nat.le_refl _))
            have RD5 := Lib.hid (RD4.out.below b5)
            have hsz5 := b5.size
            clear L4 b5 c4 S4 T4 B4 TW4 O4 RD4
            have HRN2 := Lib.hid (HRN.out.1)
            go_wp2_with (at_builtin; refine wpList_append_rd2 _ rfl (.tmp 45) (.tmp 49) 22 rfl w2.heap.size 5 i0 (.int .u8 0) 1 Tryd.underlying22 hi hz0 hz1 hz2 rfl (.slice V ti cv) ti _ rfl O5.out ra rl rc _ rfl HNIL.out RD5.out (bs_one _) (by unfold maxLen; omega) (by omega) (by omega) ?_; intro v6 w6 hown6 hgrow6 hcase6; have O6 := Lib.hid hown6; have G6 := Lib.hid hgrow6; have K6 := Lib.hid hcase6; clear hown6 hgrow6 hcase6)
            have hV : ∀ x, (Value.slice V ti cv).ownBlock = some x → w2.heap.size ≤ x := fun x hx => (O5.out.lt x hx).1
            have O7 : Hid (w6.ownsRow w2.heap.size 5 1 v6 (ti + rl) (bs (acc ++ rb))) := Lib.hid (by rw [bs_append]; exact O6.out)
            have S6 := Lib.hid (S5.out.grownR G6.out (fun e => (Hgne.out g e).1 rfl))
            have T6 := Lib.hid (T5.out.grownR G6.out (fun e => by have := hV _ e; omega) (fun e => by have := hV _ e; omega))
            have TW6 : Hid (Twin w6 gt rb) := Lib.hid (Go.Proofs.YtdpdpmiepidkoaaDoor.grownR TW5.out G6.out (fun e => (Hgne.out gt e).2 rfl))
            have B6 : Hid (Below w.heap.size w w6) := Lib.hid (B5.out.grown G6.out B5.out.size (fun x hx => by have := hV x hx; omega))
            have N6 : Hid (v6.ownBlock ≠ some gt) := Lib.hid (by
              rcases K6.out with h | h
              · rw [h]; exact fun e => (Hgne.out gt e).2 rfl
              · rw [h]; intro e; injection e with e; have := At.lt TW5.out; omega)
            have hsz6 : w2.heap.size ≤ w6.heap.size := by have := G6.out.size; omega
            have AT0 : Hid (∃ xs : List Nat, xs.length = rl + 1 ∧ (∀ y ∈ xs, y < 256) ∧ At w6 gt 5 (bs xs).toArray) := Lib.hid ⟨rb ++ [77], by simp [HRLn.out], by intro y hy; rcases List.mem_append.1 hy with h | h; exact HBY.out y h; rw [List.mem_singleton.1 h]; decide, TW6.out⟩
            clear hV O5 O6 G6 K6 S5 T5 B5 TW5 RD5 c5 Hgne hsz5 hsz4 hsz3 TW6
            go_loopw [7] (fun s' wr => ∃ k : Nat, k ≤ rl ∧ s' = .int .i64 k ∧ (∃ xs : List Nat, xs.length = rl + 1 ∧ (∀ y ∈ xs, y < 256) ∧ At wr gt 5 (bs xs).toArray) ∧ w6.grownBy wr (some gt)) (fun s' _ => rl - (intOf s').toNat)
            case atStart => exact ⟨0, by omega, rfl, AT0.out, grown_rf _ _⟩
            case round =>
              obtain ⟨k, hk, rfl, ⟨xs, hxl, hxb, hat⟩, hgr⟩ := hrel
              clear AT0
              by_cases hkl : k < rl
              · have hkl' : (k : Int) < (rl : Int) := by omega
                have CC := hat.byte k (by omega)
                have FF := hat.frozen k
                have LL := hat.lt
                have hx8 : xs.getD k 0 < 256 := by rw [List.getD_eq_getElem?_getD, List.getElem?_eq_getElem (by omega)]; exact hxb _ (List.getElem_mem (by omega))
                have HAT := Lib.hid hat
                have HGR := Lib.hid hgr
                have HXB := Lib.hid hxb
                generalize xs.getD k 0 = x at *
                clear hat hgr hxb
                go_wp2
                go_roundw
                case rel =>
                  refine ⟨k + 1, by omega, by go_num, ⟨xs.set k ((x + 1) % 256), by simp [hxl], ?_, ?_⟩, grown_set HGR.out k _⟩
                  · intro y hy
                    rcases List.mem_or_eq_of_mem_set hy with h | h
                    · exact HXB.out y h
                    · rw [h]; omega
                  · have h := HAT.out.set k (.int .u8 ((x + 1) % 256 : Nat))
                    rw [List.setIfInBounds_toArray, bs_set] at h
                    exact h
                case measure => simp [intOf]; omega
              · obtain rfl : k = rl := by omega
                have hkl' : ¬ (k : Int) < (k : Int) := by omega
                have HGR := Lib.hid hgr
                clear hat hgr hxb hkl
                have S7 := Lib.hid (S6.out.grown HGR.out (by omega))
                have T7 := Lib.hid (T6.out.grown HGR.out (by omega) (by omega))
                have B7 : Hid (Below w.heap.size w wr) := Lib.hid (B6.out.grown HGR.out B6.out.size (by simp; omega))
                have O8 := Lib.hid (own_kept O7.out HGR.out N6.out)
                have hsz7 : w2.heap.size ≤ wr.heap.size := by have := HGR.out.size; omega
                clear S6 T6 B6 O7 HGR
                have H8 := Lib.hid (hash_ok g (acc ++ rb) wr S7.out T7.out (by rw [List.length_append, HCL.out, HRLn.out]; omega))
                go_wp2_with fail
                refine H8.out.mono ?_
                rintro e w8 ⟨rfl, b8⟩
                have S8 := Lib.hid (S7.out.on b8)
                have T8 := Lib.hid (T7.out.on b8)
                have B8 := Lib.hid (bel_tr B7.out b8)
                have O9 := Lib.hid (own_on O8.out b8 (Nat.le_refl _))
                have hsz8 : w2.heap.size ≤ w8.heap.size := by have := b8.size; omega
                obtain ⟨V6, c6, rfl, _, _⟩ := own_form O9.out
                have hnil6 : V6 = none → ti + k = 0 ∧ c6 = 0 := fun e => by
                  rcases own_cases O9.out with ⟨e1, h2, _⟩ | ⟨g', c', e1⟩
                  · injection e1 with _ _ e3; exact ⟨h2, e3⟩
                  · injection e1 with e1 _ _; rw [e] at e1; cases e1
                have hbb : ∀ y ∈ acc ++ rb, y < 256 := fun y hy => by
                  rcases List.mem_append.1 hy with h | h
                  · exact HCB.out y h
                  · exact HBY.out y h
                have RO := Lib.hid (rof_ok V6 (ti + k) c6 (acc ++ rb) w8 (Rd.own O9.out) hnil6 hbb (by omega))
                have EQ := eqH (sha (acc ++ rb)) (sha_len _)
                have HBB := Lib.hid hbb
                obtain ⟨xs9, hxs9⟩ : ∃ x, bs (sha (acc ++ rb)) = x := ⟨_, rfl⟩
                rw [hxs9] at RO EQ ⊢
                have HEQ := Lib.hid EQ
                clear hxs9 EQ hbb hnil6 b8 S7 T7 B7 O8 H8 N6
                go_wp2_with fail
                refine RO.out.mono ?_
                rintro e w9 ⟨rfl, b9⟩
                have S9 := Lib.hid (S8.out.on b9)
                have T9 := Lib.hid (T8.out.on b9)
                have B9 := Lib.hid (bel_tr B8.out b9)
                have O10 := Lib.hid (own_on O9.out b9 (Nat.le_refl _))
                have hsz9 : w2.heap.size ≤ w9.heap.size := by have := b9.size; omega
                have EQ := HEQ.out
                clear S8 T8 B8 O9 b9 RO HEQ
                go_wp2_with (simp only [EQ])
                go_roundw
                case rel => exact ⟨i + 1, by omega, by go_num, by rw [HCAT.out, HTI.out, List.length_append, HCL.out, HRLn.out], by rw [HCAT.out]; exact HBB.out, by rw [HCAT.out, HTI.out]; exact O10.out, by rw [HCAT.out]; exact S9.out, T9.out, hsz9, B9.out⟩
                case measure => simp [intOf]; omega
        · obtain rfl : i = n := by omega
          have hlt' : ¬ (i : Int) < (i : Int) := by omega
          have H8 := Lib.hid (hash_ok g (cat RB i) wr S1.out T1.out (by rw [HCL.out]; omega))
          go_wp2_with fail
          refine H8.out.mono ?_
          rintro e w8 ⟨rfl, b8⟩
          have B8 := Lib.hid (bel_tr B1.out b8)
          have O9 := Lib.hid (own_on O1.out b8 (Nat.le_refl _))
          have hnil6 : V = none → tot RL i = 0 ∧ cv = 0 := fun e => by
            rcases own_cases O9.out with ⟨e1, h2, _⟩ | ⟨g', c', e1⟩
            · injection e1 with _ _ e3; exact ⟨h2, e3⟩
            · injection e1 with e1 _ _; rw [e] at e1; cases e1
          have RO := Lib.hid (rof_ok V (tot RL i) cv (cat RB i) w8 (Rd.own O9.out) hnil6 HCB.out (by omega))
          have EQ := eqH (sha (cat RB i)) (sha_len _)
          obtain ⟨xs9, hxs9⟩ : ∃ x, bs (sha (cat RB i)) = x := ⟨_, rfl⟩
          rw [hxs9] at RO EQ ⊢
          have HEQ := Lib.hid EQ
          clear hxs9 EQ hnil6 b8 S1 T1 B1 O1 H8
          go_wp2_with fail
          refine RO.out.mono ?_
          rintro e w9 ⟨rfl, b9⟩
          have B9 := Lib.hid (bel_tr B8.out b9)
          have EQ := HEQ.out
          clear B8 O9 b9 RO HEQ
          go_wp2_with (simp only [EQ])
          go_ret
          exact ⟨rfl, B9.out⟩
  · have h60' : (60 : Int) < (n : Int) := by omega
    go_enter Tryd.func4, Tryd.ntmps4
    go_wp2
    go_ret
    exact ⟨rfl, Below.refl _ _⟩
end Go.Proofs.YtdpdpmiepidkoaaDoor
