/-
  The document's own block (balefireref05): 64 bytes are taken in.
-/
import Derived.Test.YtkmjfaaelkmnkaaDoorMSum2
namespace Go.Proofs.YtkmjfaaelkmnkaaDoor
open Go.RowKit
set_option linter.unusedSimpArgs false
set_option linter.unusedVariables false

theorem zero_w8 : (Tryd.prog.info? 63).map (·.zero) = some (some (.agg (hs (List.replicate 8 0)).toArray)) := by kernel_rfl
theorem size_w8 : (Tryd.prog.info? 63).map (·.size) = some 8 := by kernel_rfl
theorem under_w8 : Tryd.prog.underlying 63 = some (.array 8 62) := by kernel_rfl
theorem join24 (a b : Nat) (h : b < 16777216) : a * 16777216 ||| b = a * 16777216 + b :=
  nat_join 24 _ _ (by rw [show (2 : Nat) ^ 24 = 16777216 by decide]; exact Nat.mul_mod_left _ _) (by rw [show (2 : Nat) ^ 24 = 16777216 by decide]; exact h)
theorem join16 (a b : Nat) (h : b < 65536) : a * 65536 ||| b = a * 65536 + b :=
  nat_join 16 _ _ (by rw [show (2 : Nat) ^ 16 = 65536 by decide]; exact Nat.mul_mod_left _ _) (by rw [show (2 : Nat) ^ 16 = 65536 by decide]; exact h)
theorem join8 (a b : Nat) (h : b < 256) : a * 256 ||| b = a * 256 + b :=
  nat_join 8 _ _ (by rw [show (2 : Nat) ^ 8 = 256 by decide]; exact Nat.mul_mod_left _ _) (by rw [show (2 : Nat) ^ 8 = 256 by decide]; exact h)
theorem four_form (b0 b1 b2 b3 : Nat) (h0 : b0 < 256) (h1 : b1 < 256) (h2 : b2 < 256) (h3 : b3 < 256) :
    (((b0 * 2 ^ 24 % 4294967296) ||| (b1 * 2 ^ 16 % 4294967296)) ||| (b2 * 2 ^ 8 % 4294967296)) ||| b3 = val [b0, b1, b2, b3] := by
  rw [show (2 : Nat) ^ 24 = 16777216 by decide, show (2 : Nat) ^ 16 = 65536 by decide, show (2 : Nat) ^ 8 = 256 by decide]
  rw [Nat.mod_eq_of_lt (show b0 * 16777216 < 4294967296 by omega), Nat.mod_eq_of_lt (show b1 * 65536 < 4294967296 by omega), Nat.mod_eq_of_lt (show b2 * 256 < 4294967296 by omega)]
  rw [join24 _ _ (show b1 * 65536 < 16777216 by omega), show b0 * 16777216 + b1 * 65536 = (b0 * 256 + b1) * 65536 by omega, join16 _ _ (show b2 * 256 < 65536 by omega),
    show (b0 * 256 + b1) * 65536 + b2 * 256 = ((b0 * 256 + b1) * 256 + b2) * 256 by omega, join8 _ _ h3]
  simp only [val, List.foldl_cons, List.foldl_nil]
  omega
theorem St.add_comm (s x : St) : s.add x = x.add s := by simp [St.add, Nat.add_comm]
theorem val_four (l : List Nat) (k : Nat) (h : k + 4 ≤ l.length) : val ((l.drop k).take 4) = val [l.getD k 0, l.getD (k + 1) 0, l.getD (k + 2) 0, l.getD (k + 3) 0] := by
  congr 1
  apply List.ext_getElem
  · simp; omega
  · intro i h1 h2
    have hi : i < 4 := by simpa using h2
    rw [List.getElem_take, List.getElem_drop]
    match i, hi with
    | 0, _ | 1, _ | 2, _ | 3, _ => simp [List.getD]; rw [List.getElem?_eq_getElem (by omega)]; rfl
section
variable {ops : Array Oper} {Q : Exit → Act → World → Prop} {rest : List Oper} {a : Act} {w : World} {d : Tmp} {ty : TypeId} {pos : String} {after : Array Edge} {x y : Operand}
theorem law_sub64 (p q c : Nat) (hc : c + q = p) (hp : p < 9223372036854775808) (hx : a.eval x = .int .i64 (p : Nat)) (hy : a.eval y = .int .i64 (q : Nat))
    (h : wpList Tryd.prog ops Q rest (a.put (some d) (.int .i64 (c : Nat))) w) : wpList Tryd.prog ops Q (⟨some d, .binOp .sub 3 x y 3, ty, pos, after, none⟩ :: rest) a w :=
  law_value rfl (sub64 p q c hc hp hx hy) h
theorem law_at64 (g k : Nat) (hk : k < 64) (hx : a.eval x = .pointer (some ⟨g, 0, none⟩)) (hy : a.eval y = .int .i64 (k : Nat))
    (h : wpList Tryd.prog ops Q rest (a.put (some d) (.pointer (some ⟨g, k, none⟩))) w) : wpList Tryd.prog ops Q (⟨some d, .indexAddr 88 x y, ty, pos, after, none⟩ :: rest) a w :=
  law_value rfl (at64 g k hk hx hy) h
theorem law_load32 (g k : Nat) (u : Value) (hx : a.eval x = .pointer (some ⟨g, k, none⟩)) (hc : w.cell? ⟨g, k, none⟩ = some u)
    (h : wpList Tryd.prog ops Q rest (a.put (some d) u) w) : wpList Tryd.prog ops Q (⟨some d, .load 62 x, ty, pos, after, none⟩ :: rest) a w :=
  law_value rfl (load32 g k u hx hc) h
end

set_option maxRecDepth 100000 in
set_option maxHeartbeats 8000000 in
theorem block_ok (s : St) (B : List Nat) (o : s.Ok) (hl : B.length = 64) (hb : ∀ y ∈ B, y < 256) (b ob cb gk : Nat) (w : World) (hr : Rd w (some ⟨b, ob, none⟩) 64 (bs B)) (hk : At w gk 62 (hs cubes).toArray) :
    Calls Tryd.prog 64 #[.agg (hs s.list).toArray, .slice (some ⟨b, ob, none⟩) 64 cb, .slice (some ⟨gk, 0, none⟩) 64 64] w fun e w' => e = .returned (.agg (hs (comp s B).list).toArray) ∧ Below w.heap.size w w' := by
  have HB := Lib.hid hb
  have HL := Lib.hid hl
  have HO := Lib.hid o
  have HRB := Lib.hid hr
  have HK := Lib.hid hk
  have hbl : b < w.heap.size := by obtain ⟨b', o', e, h, _⟩ := hr.spot (show 0 < 64 by omega); injection e with e; injection e with e1 _; omega
  have hkl := hk.lt
  clear hb hl o hr hk
  go_enter Tryd.func64, Tryd.ntmps64
  go_wp2_with (first | (refine law_box (d := 3) (ty := 63) (hs s.list).toArray rfl ?_; intro w1 N1; have H1 := Lib.hid N1; clear N1) | (refine law_alloc (d := 6) (ty := 63) _ zero_w8 ?_; intro w2 N2; have H2 := Lib.hid N2; clear N2) | (refine law_alloc (d := 7) (ty := 88) _ zero_words ?_; intro w3 N3; have H3 := Lib.hid N3; clear N3))
  have b1 := H1.out.bel
  have b2 := H2.out.bel
  have b3 := H3.out.bel
  have z1 := H1.out.size
  have z2 := H2.out.size
  have A3 := Lib.hid ((H1.out.at_.on b2).on b3)
  have A6 := Lib.hid (H2.out.at_.on b3)
  have A7 := Lib.hid H3.out.at_
  have AB := Lib.hid (bel_tr (bel_tr b1 b2) b3)
  have AR := Lib.hid (((HRB.out.below b1).below b2).below b3)
  have AK := Lib.hid (((HK.out.on b1).on b2).on b3)
  obtain ⟨g7, hg7⟩ : ∃ x, w2.heap.size = x := ⟨_, rfl⟩
  obtain ⟨g6, hg6⟩ : ∃ x, w1.heap.size = x := ⟨_, rfl⟩
  obtain ⟨g3, hg3⟩ : ∃ x, w.heap.size = x := ⟨_, rfl⟩
  have HG3 := Lib.hid hg3
  have Dbg : b ≠ g7 := by omega
  have Dkg : gk ≠ g7 := by omega
  have D37 : g3 ≠ g7 := by omega
  have D67 : g6 ≠ g7 := by omega
  have D36 : g3 ≠ g6 := by omega
  have E7 : w.heap.size ≤ g7 := by omega
  have E6 : w.heap.size ≤ g6 := by omega
  have E3 : w.heap.size ≤ g3 := by omega
  rw [hg7] at A7 ⊢
  rw [hg6] at A6 ⊢
  rw [hg3] at A3 ⊢
  clear b1 b2 b3 z1 z2 H1 H2 H3 HRB HK hg7 hg6 hg3 hbl hkl
  go_loopw [8] (fun s' wr => ∃ i : Nat, i ≤ 16 ∧ s' = .int .i64 i ∧ At wr g7 88 (hs (first B i ++ List.replicate (64 - i) 0)).toArray ∧ At wr g3 63 (hs s.list).toArray ∧ At wr g6 63 (hs (List.replicate 8 0)).toArray ∧ Rd wr (some ⟨b, ob, none⟩) 64 (bs B) ∧ At wr gk 62 (hs cubes).toArray ∧ Below w.heap.size w wr) (fun s' _ => 16 - (intOf s').toNat)
  case atStart => exact ⟨0, by omega, rfl, A7.out, A3.out, A6.out, AR.out, AK.out, AB.out⟩
  case round =>
    obtain ⟨i, hi, rfl, P7, P3, P6, PR, PK, PB⟩ := hrel
    clear A3 A6 A7 AR AK AB
    by_cases hlt : i < 16
    · have hlt' : (i : Int) < 16 := by omega
      obtain ⟨b', o', e', LB, hcell⟩ := PR.spot (show 0 < 64 by omega)
      injection e' with e'
      injection e' with e1 e2
      subst e1 e2
      have F0 : wr.cell? ⟨b, ob + (4 * i), none⟩ = some (.int .u8 (B.getD (4 * i) 0 : Nat)) := hcell _ _ (bs_at B _ (by have := HL.out; omega))
      have F1 : wr.cell? ⟨b, ob + (4 * i + 1), none⟩ = some (.int .u8 (B.getD (4 * i + 1) 0 : Nat)) := hcell _ _ (bs_at B _ (by have := HL.out; omega))
      have F2 : wr.cell? ⟨b, ob + (4 * i + 2), none⟩ = some (.int .u8 (B.getD (4 * i + 2) 0 : Nat)) := hcell _ _ (bs_at B _ (by have := HL.out; omega))
      have F3 : wr.cell? ⟨b, ob + (4 * i + 3), none⟩ = some (.int .u8 (B.getD (4 * i + 3) 0 : Nat)) := hcell _ _ (bs_at B _ (by have := HL.out; omega))
      have gd : ∀ k, B.getD k 0 < 256 := fun k => by
        by_cases hk : k < B.length
        · rw [List.getD_eq_getElem?_getD, List.getElem?_eq_getElem hk]; exact HB.out _ (List.getElem_mem hk)
        · rw [List.getD_eq_getElem?_getD, List.getElem?_eq_none (by omega)]; decide
      have hb0 := gd (4 * i)
      have hb1 := gd (4 * i + 1)
      have hb2 := gd (4 * i + 2)
      have hb3 := gd (4 * i + 3)
      have f4 := first_succ B i
      rw [val_four B (4 * i) (by have := HL.out; omega)] at f4
      have F4 := Lib.hid f4
      generalize B.getD (4 * i) 0 = b0 at *
      generalize B.getD (4 * i + 1) 0 = b1 at *
      generalize B.getD (4 * i + 2) 0 = b2 at *
      generalize B.getD (4 * i + 3) 0 = b3 at *
      have OLD := P7.word i (by simp [first_len]; omega)
      have LG := P7.lt
      have Q7 := Lib.hid P7
      have Q3 := Lib.hid P3
      have Q6 := Lib.hid P6
      have QR := Lib.hid PR
      have QK := Lib.hid PK
      have QB := Lib.hid PB
      have FRZ : ∀ w', Below wr.heap.size wr w' → w'.frozen? ⟨g7, i, none⟩ = false := fun w' hb => (Q7.out.on hb).frozen _
      clear P7 P3 P6 PR PK PB gd f4 hcell
      go_wp2
      try simp only [List.append_eq, List.cons_append, List.nil_append]
      refine wp_region_noPanic ?_
      refine wp_region_held_drew (S := fun w' => Same wr ⟨g7, i, none⟩ w') (by kernel_rfl) (Same.drew _ _) (fun _ => ?_)
      refine wpAnyH_cores (fuel := 1) (⟨0, 23, [], Kind.val (.int .i64 (i : Nat)), true⟩ :: ⟨1, 24, [0], Kind.val (.slice (some ⟨b, ob, none⟩) 64 cb), true⟩ :: ⟨2, 25, [1], Kind.val (.int .i64 (i : Nat)), true⟩ :: ⟨3, 26, [2], Kind.val (.int .i64 ((4 * i) : Nat)), true⟩ :: ⟨4, 27, [1, 3], Kind.val (.pointer (some ⟨b, ob + (4 * i), none⟩)), true⟩ :: ⟨5, 28, [4], Kind.val (.int .u8 (b0 : Nat)), true⟩ :: ⟨6, 29, [5], Kind.val (.int .u32 (b0 : Nat)), true⟩ :: ⟨7, 30, [6], Kind.val (.int .u32 ((b0) * 2 ^ 24 % 4294967296 : Nat)), true⟩ :: ⟨8, 31, [7], Kind.val (.slice (some ⟨b, ob, none⟩) 64 cb), true⟩ :: ⟨9, 32, [8], Kind.val (.int .i64 (i : Nat)), true⟩ :: ⟨10, 33, [9], Kind.val (.int .i64 ((4 * i) : Nat)), true⟩ :: ⟨11, 34, [10], Kind.val (.int .i64 ((4 * i + 1) : Nat)), true⟩ :: ⟨12, 35, [8, 11], Kind.val (.pointer (some ⟨b, ob + (4 * i + 1), none⟩)), true⟩ :: ⟨13, 36, [12], Kind.val (.int .u8 (b1 : Nat)), true⟩ :: ⟨14, 37, [13], Kind.val (.int .u32 (b1 : Nat)), true⟩ :: ⟨15, 38, [14], Kind.val (.int .u32 ((b1) * 2 ^ 16 % 4294967296 : Nat)), true⟩ :: ⟨16, 39, [7, 15], Kind.val (.int .u32 (((b0) * 2 ^ 24 % 4294967296) ||| ((b1) * 2 ^ 16 % 4294967296) : Nat)), true⟩ :: ⟨17, 40, [16], Kind.val (.slice (some ⟨b, ob, none⟩) 64 cb), true⟩ :: ⟨18, 41, [17], Kind.val (.int .i64 (i : Nat)), true⟩ :: ⟨19, 42, [18], Kind.val (.int .i64 ((4 * i) : Nat)), true⟩ :: ⟨20, 43, [19], Kind.val (.int .i64 ((4 * i + 2) : Nat)), true⟩ :: ⟨21, 44, [17, 20], Kind.val (.pointer (some ⟨b, ob + (4 * i + 2), none⟩)), true⟩ :: ⟨22, 45, [21], Kind.val (.int .u8 (b2 : Nat)), true⟩ :: ⟨23, 46, [22], Kind.val (.int .u32 (b2 : Nat)), true⟩ :: ⟨24, 47, [23], Kind.val (.int .u32 ((b2) * 2 ^ 8 % 4294967296 : Nat)), true⟩ :: ⟨25, 48, [16, 24], Kind.val (.int .u32 ((((b0) * 2 ^ 24 % 4294967296) ||| ((b1) * 2 ^ 16 % 4294967296)) ||| ((b2) * 2 ^ 8 % 4294967296) : Nat)), true⟩ :: ⟨26, 49, [25], Kind.val (.slice (some ⟨b, ob, none⟩) 64 cb), true⟩ :: ⟨27, 50, [26], Kind.val (.int .i64 (i : Nat)), true⟩ :: ⟨28, 51, [27], Kind.val (.int .i64 ((4 * i) : Nat)), true⟩ :: ⟨29, 52, [28], Kind.val (.int .i64 ((4 * i + 3) : Nat)), true⟩ :: ⟨30, 53, [26, 29], Kind.val (.pointer (some ⟨b, ob + (4 * i + 3), none⟩)), true⟩ :: ⟨31, 54, [30], Kind.val (.int .u8 (b3 : Nat)), true⟩ :: ⟨32, 55, [31], Kind.val (.int .u32 (b3 : Nat)), true⟩ :: ⟨33, 56, [25, 32], Kind.val (.int .u32 (((((b0) * 2 ^ 24 % 4294967296) ||| ((b1) * 2 ^ 16 % 4294967296)) ||| ((b2) * 2 ^ 8 % 4294967296)) ||| (b3) : Nat)), true⟩ :: ⟨34, 57, [0, 1, 2, 3, 4, 5, 6, 7, 8, 9, 10, 11, 12, 13, 14, 15, 16, 17, 18, 19, 20, 21, 22, 23, 24, 25, 26, 27, 28, 29, 30, 31, 32, 33], Kind.val (.pointer (some ⟨g7, i, none⟩)), true⟩ :: []) _ _ wr _ ?_ ?_ ?_ ?_ ?_ ?_ ?_ ?_ ?_ ?_ ?_
      · rfl
      · kernel_rfl
      · exact of_decide_eq_true (by kernel_rfl)
      · exact all_cons ⟨_, by rfl, by rfl⟩ (all_cons ⟨_, by rfl, by rfl⟩ (all_cons ⟨_, by rfl, by rfl⟩ (all_cons ⟨_, by rfl, by rfl⟩ (all_cons ⟨_, by rfl, by rfl⟩ (all_cons ⟨_, by rfl, by rfl⟩ (all_cons ⟨_, by rfl, by rfl⟩ (all_cons ⟨_, by rfl, by rfl⟩ (all_cons ⟨_, by rfl, by rfl⟩ (all_cons ⟨_, by rfl, by rfl⟩ (all_cons ⟨_, by rfl, by rfl⟩ (all_cons ⟨_, by rfl, by rfl⟩ (all_cons ⟨_, by rfl, by rfl⟩ (all_cons ⟨_, by rfl, by rfl⟩ (all_cons ⟨_, by rfl, by rfl⟩ (all_cons ⟨_, by rfl, by rfl⟩ (all_cons ⟨_, by rfl, by rfl⟩ (all_cons ⟨_, by rfl, by rfl⟩ (all_cons ⟨_, by rfl, by rfl⟩ (all_cons ⟨_, by rfl, by rfl⟩ (all_cons ⟨_, by rfl, by rfl⟩ (all_cons ⟨_, by rfl, by rfl⟩ (all_cons ⟨_, by rfl, by rfl⟩ (all_cons ⟨_, by rfl, by rfl⟩ (all_cons ⟨_, by rfl, by rfl⟩ (all_cons ⟨_, by rfl, by rfl⟩ (all_cons ⟨_, by rfl, by rfl⟩ (all_cons ⟨_, by rfl, by rfl⟩ (all_cons ⟨_, by rfl, by rfl⟩ (all_cons ⟨_, by rfl, by rfl⟩ (all_cons ⟨_, by rfl, by rfl⟩ (all_cons ⟨_, by rfl, by rfl⟩ (all_cons ⟨_, by rfl, by rfl⟩ (all_cons ⟨_, by rfl, by rfl⟩ (all_cons ⟨_, by rfl, by rfl⟩ (all_nil)))))))))))))))))))))))))))))))))))
      · exact fun _ hb => Same.of hb
      · exact (Below.refl _ _).drew
      · kernel_rfl
      · exact fun _ _ _ _ _ h => h
      · refine all_cons ?_ (all_cons ?_ (all_cons ?_ (all_cons ?_ (all_cons ?_ (all_cons ?_ (all_cons ?_ (all_cons ?_ (all_cons ?_ (all_cons ?_ (all_cons ?_ (all_cons ?_ (all_cons ?_ (all_cons ?_ (all_cons ?_ (all_cons ?_ (all_cons ?_ (all_cons ?_ (all_cons ?_ (all_cons ?_ (all_cons ?_ (all_cons ?_ (all_cons ?_ (all_cons ?_ (all_cons ?_ (all_cons ?_ (all_cons ?_ (all_cons ?_ (all_cons ?_ (all_cons ?_ (all_cons ?_ (all_cons ?_ (all_cons ?_ (all_cons ?_ (all_cons ?_ (all_nil)))))))))))))))))))))))))))))))))))
        · exact core_move _ _ _ _ _ _ (by rfl) (by rfl) (known_old 8 _ (of_decide_eq_true (by rfl)) (by rfl))
        · exact core_move _ _ _ _ _ _ (by rfl) (by rfl) (known_old 1 _ (of_decide_eq_true (by rfl)) (by rfl))
        · exact core_move _ _ _ _ _ _ (by rfl) (by rfl) (known_old 8 _ (of_decide_eq_true (by rfl)) (by rfl))
        · exact core_held2C _ _ _ _ _ _ _ _ _ _ (by rfl) (by rfl) (known_const _) (known_core 2 25 _ _ (of_decide_eq_true (by rfl)) (by rfl) (by rfl) (by rfl)) (fun ρ w kx ky hs => mul64 (4) (i) ((4 * i)) (by omega) (by omega) kx ky)
        · exact core_held2C _ _ _ _ _ _ _ _ _ _ (by rfl) (by rfl) (known_core 1 24 _ _ (of_decide_eq_true (by rfl)) (by rfl) (by rfl) (by rfl)) (known_core 3 26 _ _ (of_decide_eq_true (by rfl)) (by rfl) (by rfl) (by rfl)) (fun ρ w kx ky hs => atSl b (ob) (64) (cb) ((4 * i)) (by omega) kx ky)
        · exact core_heldC _ _ _ _ _ _ _ _ (by rfl) (by rfl) (known_core 4 27 _ _ (of_decide_eq_true (by rfl)) (by rfl) (by rfl) (by rfl)) (fun ρ w kx hs => load8 _ _ _ kx ((hs _ LB (fun e => by injection e with e1 e2; exact Dbg e1)).trans (F0)))
        · exact core_heldC _ _ _ _ _ _ _ _ (by rfl) (by rfl) (known_core 5 28 _ _ (of_decide_eq_true (by rfl)) (by rfl) (by rfl) (by rfl)) (fun ρ w kx hs => conv32 _ (hb0) kx)
        · exact core_held2C _ _ _ _ _ _ _ _ _ _ (by rfl) (by rfl) (known_core 6 29 _ _ (of_decide_eq_true (by rfl)) (by rfl) (by rfl) (by rfl)) (known_const _) (fun ρ w kx ky hs => shl32 _ 24 (by decide) kx ky)
        · exact core_move _ _ _ _ _ _ (by rfl) (by rfl) (known_old 1 _ (of_decide_eq_true (by rfl)) (by rfl))
        · exact core_move _ _ _ _ _ _ (by rfl) (by rfl) (known_old 8 _ (of_decide_eq_true (by rfl)) (by rfl))
        · exact core_held2C _ _ _ _ _ _ _ _ _ _ (by rfl) (by rfl) (known_const _) (known_core 9 32 _ _ (of_decide_eq_true (by rfl)) (by rfl) (by rfl) (by rfl)) (fun ρ w kx ky hs => mul64 (4) (i) ((4 * i)) (by omega) (by omega) kx ky)
        · exact core_held2C _ _ _ _ _ _ _ _ _ _ (by rfl) (by rfl) (known_core 10 33 _ _ (of_decide_eq_true (by rfl)) (by rfl) (by rfl) (by rfl)) (known_const _) (fun ρ w kx ky hs => add64 ((4 * i)) (1) ((4 * i + 1)) (by omega) (by omega) kx ky)
        · exact core_held2C _ _ _ _ _ _ _ _ _ _ (by rfl) (by rfl) (known_core 8 31 _ _ (of_decide_eq_true (by rfl)) (by rfl) (by rfl) (by rfl)) (known_core 11 34 _ _ (of_decide_eq_true (by rfl)) (by rfl) (by rfl) (by rfl)) (fun ρ w kx ky hs => atSl b (ob) (64) (cb) ((4 * i + 1)) (by omega) kx ky)
        · exact core_heldC _ _ _ _ _ _ _ _ (by rfl) (by rfl) (known_core 12 35 _ _ (of_decide_eq_true (by rfl)) (by rfl) (by rfl) (by rfl)) (fun ρ w kx hs => load8 _ _ _ kx ((hs _ LB (fun e => by injection e with e1 e2; exact Dbg e1)).trans (F1)))
        · exact core_heldC _ _ _ _ _ _ _ _ (by rfl) (by rfl) (known_core 13 36 _ _ (of_decide_eq_true (by rfl)) (by rfl) (by rfl) (by rfl)) (fun ρ w kx hs => conv32 _ (hb1) kx)
        · exact core_held2C _ _ _ _ _ _ _ _ _ _ (by rfl) (by rfl) (known_core 14 37 _ _ (of_decide_eq_true (by rfl)) (by rfl) (by rfl) (by rfl)) (known_const _) (fun ρ w kx ky hs => shl32 _ 16 (by decide) kx ky)
        · exact core_held2C _ _ _ _ _ _ _ _ _ _ (by rfl) (by rfl) (known_core 7 30 _ _ (of_decide_eq_true (by rfl)) (by rfl) (by rfl) (by rfl)) (known_core 15 38 _ _ (of_decide_eq_true (by rfl)) (by rfl) (by rfl) (by rfl)) (fun ρ w kx ky hs => or32 _ _ (m32 _) (m32 _) kx ky)
        · exact core_move _ _ _ _ _ _ (by rfl) (by rfl) (known_old 1 _ (of_decide_eq_true (by rfl)) (by rfl))
        · exact core_move _ _ _ _ _ _ (by rfl) (by rfl) (known_old 8 _ (of_decide_eq_true (by rfl)) (by rfl))
        · exact core_held2C _ _ _ _ _ _ _ _ _ _ (by rfl) (by rfl) (known_const _) (known_core 18 41 _ _ (of_decide_eq_true (by rfl)) (by rfl) (by rfl) (by rfl)) (fun ρ w kx ky hs => mul64 (4) (i) ((4 * i)) (by omega) (by omega) kx ky)
        · exact core_held2C _ _ _ _ _ _ _ _ _ _ (by rfl) (by rfl) (known_core 19 42 _ _ (of_decide_eq_true (by rfl)) (by rfl) (by rfl) (by rfl)) (known_const _) (fun ρ w kx ky hs => add64 ((4 * i)) (2) ((4 * i + 2)) (by omega) (by omega) kx ky)
        · exact core_held2C _ _ _ _ _ _ _ _ _ _ (by rfl) (by rfl) (known_core 17 40 _ _ (of_decide_eq_true (by rfl)) (by rfl) (by rfl) (by rfl)) (known_core 20 43 _ _ (of_decide_eq_true (by rfl)) (by rfl) (by rfl) (by rfl)) (fun ρ w kx ky hs => atSl b (ob) (64) (cb) ((4 * i + 2)) (by omega) kx ky)
        · exact core_heldC _ _ _ _ _ _ _ _ (by rfl) (by rfl) (known_core 21 44 _ _ (of_decide_eq_true (by rfl)) (by rfl) (by rfl) (by rfl)) (fun ρ w kx hs => load8 _ _ _ kx ((hs _ LB (fun e => by injection e with e1 e2; exact Dbg e1)).trans (F2)))
        · exact core_heldC _ _ _ _ _ _ _ _ (by rfl) (by rfl) (known_core 22 45 _ _ (of_decide_eq_true (by rfl)) (by rfl) (by rfl) (by rfl)) (fun ρ w kx hs => conv32 _ (hb2) kx)
        · exact core_held2C _ _ _ _ _ _ _ _ _ _ (by rfl) (by rfl) (known_core 23 46 _ _ (of_decide_eq_true (by rfl)) (by rfl) (by rfl) (by rfl)) (known_const _) (fun ρ w kx ky hs => shl32 _ 8 (by decide) kx ky)
        · exact core_held2C _ _ _ _ _ _ _ _ _ _ (by rfl) (by rfl) (known_core 16 39 _ _ (of_decide_eq_true (by rfl)) (by rfl) (by rfl) (by rfl)) (known_core 24 47 _ _ (of_decide_eq_true (by rfl)) (by rfl) (by rfl) (by rfl)) (fun ρ w kx ky hs => or32 _ _ (lt32_or (m32 _) (m32 _)) (m32 _) kx ky)
        · exact core_move _ _ _ _ _ _ (by rfl) (by rfl) (known_old 1 _ (of_decide_eq_true (by rfl)) (by rfl))
        · exact core_move _ _ _ _ _ _ (by rfl) (by rfl) (known_old 8 _ (of_decide_eq_true (by rfl)) (by rfl))
        · exact core_held2C _ _ _ _ _ _ _ _ _ _ (by rfl) (by rfl) (known_const _) (known_core 27 50 _ _ (of_decide_eq_true (by rfl)) (by rfl) (by rfl) (by rfl)) (fun ρ w kx ky hs => mul64 (4) (i) ((4 * i)) (by omega) (by omega) kx ky)
        · exact core_held2C _ _ _ _ _ _ _ _ _ _ (by rfl) (by rfl) (known_core 28 51 _ _ (of_decide_eq_true (by rfl)) (by rfl) (by rfl) (by rfl)) (known_const _) (fun ρ w kx ky hs => add64 ((4 * i)) (3) ((4 * i + 3)) (by omega) (by omega) kx ky)
        · exact core_held2C _ _ _ _ _ _ _ _ _ _ (by rfl) (by rfl) (known_core 26 49 _ _ (of_decide_eq_true (by rfl)) (by rfl) (by rfl) (by rfl)) (known_core 29 52 _ _ (of_decide_eq_true (by rfl)) (by rfl) (by rfl) (by rfl)) (fun ρ w kx ky hs => atSl b (ob) (64) (cb) ((4 * i + 3)) (by omega) kx ky)
        · exact core_heldC _ _ _ _ _ _ _ _ (by rfl) (by rfl) (known_core 30 53 _ _ (of_decide_eq_true (by rfl)) (by rfl) (by rfl) (by rfl)) (fun ρ w kx hs => load8 _ _ _ kx ((hs _ LB (fun e => by injection e with e1 e2; exact Dbg e1)).trans (F3)))
        · exact core_heldC _ _ _ _ _ _ _ _ (by rfl) (by rfl) (known_core 31 54 _ _ (of_decide_eq_true (by rfl)) (by rfl) (by rfl) (by rfl)) (fun ρ w kx hs => conv32 _ (hb3) kx)
        · exact core_held2C _ _ _ _ _ _ _ _ _ _ (by rfl) (by rfl) (known_core 25 48 _ _ (of_decide_eq_true (by rfl)) (by rfl) (by rfl) (by rfl)) (known_core 32 55 _ _ (of_decide_eq_true (by rfl)) (by rfl) (by rfl) (by rfl)) (fun ρ w kx ky hs => or32 _ _ (lt32_or (lt32_or (m32 _) (m32 _)) (m32 _)) (Nat.lt_trans (hb3) (by decide)) kx ky)
        · exact core_held2C _ _ _ _ _ _ _ _ _ _ (by rfl) (by rfl) (known_old 7 _ (of_decide_eq_true (by rfl)) (by rfl)) (known_core 0 23 _ _ (of_decide_eq_true (by rfl)) (by rfl) (by rfl) (by rfl)) (fun ρ w kx ky hs => at64 g7 (i) (by omega) kx ky)
      · refine all_cons ?_ (all_cons ?_ (all_cons ?_ (all_cons ?_ (all_cons ?_ (all_cons ?_ (all_cons ?_ (all_cons ?_ (all_cons ?_ (all_cons ?_ (all_cons ?_ (all_cons ?_ (all_cons ?_ (all_cons ?_ (all_cons ?_ (all_cons ?_ (all_cons ?_ (all_cons ?_ (all_cons ?_ (all_cons ?_ (all_cons ?_ (all_cons ?_ (all_cons ?_ (all_cons ?_ (all_cons ?_ (all_cons ?_ (all_cons ?_ (all_cons ?_ (all_cons ?_ (all_cons ?_ (all_cons ?_ (all_cons ?_ (all_cons ?_ (all_cons ?_ (all_cons ?_ (all_nil)))))))))))))))))))))))))))))))))))
        · exact core_stepAs _ (by rfl)
        · exact core_stepAs _ (by rfl)
        · exact core_stepAs _ (by rfl)
        · exact core_stepAs _ (by rfl)
        · exact core_stepAs _ (by rfl)
        · exact core_stepAs _ (by rfl)
        · exact core_stepAs _ (by rfl)
        · exact core_stepAs _ (by rfl)
        · exact core_stepAs _ (by rfl)
        · exact core_stepAs _ (by rfl)
        · exact core_stepAs _ (by rfl)
        · exact core_stepAs _ (by rfl)
        · exact core_stepAs _ (by rfl)
        · exact core_stepAs _ (by rfl)
        · exact core_stepAs _ (by rfl)
        · exact core_stepAs _ (by rfl)
        · exact core_stepAs _ (by rfl)
        · exact core_stepAs _ (by rfl)
        · exact core_stepAs _ (by rfl)
        · exact core_stepAs _ (by rfl)
        · exact core_stepAs _ (by rfl)
        · exact core_stepAs _ (by rfl)
        · exact core_stepAs _ (by rfl)
        · exact core_stepAs _ (by rfl)
        · exact core_stepAs _ (by rfl)
        · exact core_stepAs _ (by rfl)
        · exact core_stepAs _ (by rfl)
        · exact core_stepAs _ (by rfl)
        · exact core_stepAs _ (by rfl)
        · exact core_stepAs _ (by rfl)
        · exact core_stepAs _ (by rfl)
        · exact core_stepAs _ (by rfl)
        · exact core_stepAs _ (by rfl)
        · exact core_stepAs _ (by rfl)
        · exact core_stepAs _ (by rfl)
      intro vs y1 hc
      obtain ⟨vv0, vv1, vv2, vv3, vv4, vv5, vv6, vv7, vv8, vv9, vv10, vv11, vv12, vv13, vv14, vv15, vv16, vv17, vv18, vv19, vv20, vv21, vv22, vv23, vv24, vv25, vv26, vv27, vv28, vv29, vv30, vv31, vv32, vv33, vv34, rfl⟩ := len35 vs hc.lv
      have qq0 : vv0 = .int .i64 (i : Nat) := by obtain ⟨xx, hx, hy⟩ := hc.ok 0 _ rfl rfl; exact (Option.some.inj (show some vv0 = some xx from hx)).trans hy
      have qq1 : vv1 = .slice (some ⟨b, ob, none⟩) 64 cb := by obtain ⟨xx, hx, hy⟩ := hc.ok 1 _ rfl rfl; exact (Option.some.inj (show some vv1 = some xx from hx)).trans hy
      have qq2 : vv2 = .int .i64 (i : Nat) := by obtain ⟨xx, hx, hy⟩ := hc.ok 2 _ rfl rfl; exact (Option.some.inj (show some vv2 = some xx from hx)).trans hy
      have qq3 : vv3 = .int .i64 ((4 * i) : Nat) := by obtain ⟨xx, hx, hy⟩ := hc.ok 3 _ rfl rfl; exact (Option.some.inj (show some vv3 = some xx from hx)).trans hy
      have qq4 : vv4 = .pointer (some ⟨b, ob + (4 * i), none⟩) := by obtain ⟨xx, hx, hy⟩ := hc.ok 4 _ rfl rfl; exact (Option.some.inj (show some vv4 = some xx from hx)).trans hy
      have qq5 : vv5 = .int .u8 (b0 : Nat) := by obtain ⟨xx, hx, hy⟩ := hc.ok 5 _ rfl rfl; exact (Option.some.inj (show some vv5 = some xx from hx)).trans hy
      have qq6 : vv6 = .int .u32 (b0 : Nat) := by obtain ⟨xx, hx, hy⟩ := hc.ok 6 _ rfl rfl; exact (Option.some.inj (show some vv6 = some xx from hx)).trans hy
      have qq7 : vv7 = .int .u32 ((b0) * 2 ^ 24 % 4294967296 : Nat) := by obtain ⟨xx, hx, hy⟩ := hc.ok 7 _ rfl rfl; exact (Option.some.inj (show some vv7 = some xx from hx)).trans hy
      have qq8 : vv8 = .slice (some ⟨b, ob, none⟩) 64 cb := by obtain ⟨xx, hx, hy⟩ := hc.ok 8 _ rfl rfl; exact (Option.some.inj (show some vv8 = some xx from hx)).trans hy
      have qq9 : vv9 = .int .i64 (i : Nat) := by obtain ⟨xx, hx, hy⟩ := hc.ok 9 _ rfl rfl; exact (Option.some.inj (show some vv9 = some xx from hx)).trans hy
      have qq10 : vv10 = .int .i64 ((4 * i) : Nat) := by obtain ⟨xx, hx, hy⟩ := hc.ok 10 _ rfl rfl; exact (Option.some.inj (show some vv10 = some xx from hx)).trans hy
      have qq11 : vv11 = .int .i64 ((4 * i + 1) : Nat) := by obtain ⟨xx, hx, hy⟩ := hc.ok 11 _ rfl rfl; exact (Option.some.inj (show some vv11 = some xx from hx)).trans hy
      have qq12 : vv12 = .pointer (some ⟨b, ob + (4 * i + 1), none⟩) := by obtain ⟨xx, hx, hy⟩ := hc.ok 12 _ rfl rfl; exact (Option.some.inj (show some vv12 = some xx from hx)).trans hy
      have qq13 : vv13 = .int .u8 (b1 : Nat) := by obtain ⟨xx, hx, hy⟩ := hc.ok 13 _ rfl rfl; exact (Option.some.inj (show some vv13 = some xx from hx)).trans hy
      have qq14 : vv14 = .int .u32 (b1 : Nat) := by obtain ⟨xx, hx, hy⟩ := hc.ok 14 _ rfl rfl; exact (Option.some.inj (show some vv14 = some xx from hx)).trans hy
      have qq15 : vv15 = .int .u32 ((b1) * 2 ^ 16 % 4294967296 : Nat) := by obtain ⟨xx, hx, hy⟩ := hc.ok 15 _ rfl rfl; exact (Option.some.inj (show some vv15 = some xx from hx)).trans hy
      have qq16 : vv16 = .int .u32 (((b0) * 2 ^ 24 % 4294967296) ||| ((b1) * 2 ^ 16 % 4294967296) : Nat) := by obtain ⟨xx, hx, hy⟩ := hc.ok 16 _ rfl rfl; exact (Option.some.inj (show some vv16 = some xx from hx)).trans hy
      have qq17 : vv17 = .slice (some ⟨b, ob, none⟩) 64 cb := by obtain ⟨xx, hx, hy⟩ := hc.ok 17 _ rfl rfl; exact (Option.some.inj (show some vv17 = some xx from hx)).trans hy
      have qq18 : vv18 = .int .i64 (i : Nat) := by obtain ⟨xx, hx, hy⟩ := hc.ok 18 _ rfl rfl; exact (Option.some.inj (show some vv18 = some xx from hx)).trans hy
      have qq19 : vv19 = .int .i64 ((4 * i) : Nat) := by obtain ⟨xx, hx, hy⟩ := hc.ok 19 _ rfl rfl; exact (Option.some.inj (show some vv19 = some xx from hx)).trans hy
      have qq20 : vv20 = .int .i64 ((4 * i + 2) : Nat) := by obtain ⟨xx, hx, hy⟩ := hc.ok 20 _ rfl rfl; exact (Option.some.inj (show some vv20 = some xx from hx)).trans hy
      have qq21 : vv21 = .pointer (some ⟨b, ob + (4 * i + 2), none⟩) := by obtain ⟨xx, hx, hy⟩ := hc.ok 21 _ rfl rfl; exact (Option.some.inj (show some vv21 = some xx from hx)).trans hy
      have qq22 : vv22 = .int .u8 (b2 : Nat) := by obtain ⟨xx, hx, hy⟩ := hc.ok 22 _ rfl rfl; exact (Option.some.inj (show some vv22 = some xx from hx)).trans hy
      have qq23 : vv23 = .int .u32 (b2 : Nat) := by obtain ⟨xx, hx, hy⟩ := hc.ok 23 _ rfl rfl; exact (Option.some.inj (show some vv23 = some xx from hx)).trans hy
      have qq24 : vv24 = .int .u32 ((b2) * 2 ^ 8 % 4294967296 : Nat) := by obtain ⟨xx, hx, hy⟩ := hc.ok 24 _ rfl rfl; exact (Option.some.inj (show some vv24 = some xx from hx)).trans hy
      have qq25 : vv25 = .int .u32 ((((b0) * 2 ^ 24 % 4294967296) ||| ((b1) * 2 ^ 16 % 4294967296)) ||| ((b2) * 2 ^ 8 % 4294967296) : Nat) := by obtain ⟨xx, hx, hy⟩ := hc.ok 25 _ rfl rfl; exact (Option.some.inj (show some vv25 = some xx from hx)).trans hy
      have qq26 : vv26 = .slice (some ⟨b, ob, none⟩) 64 cb := by obtain ⟨xx, hx, hy⟩ := hc.ok 26 _ rfl rfl; exact (Option.some.inj (show some vv26 = some xx from hx)).trans hy
      have qq27 : vv27 = .int .i64 (i : Nat) := by obtain ⟨xx, hx, hy⟩ := hc.ok 27 _ rfl rfl; exact (Option.some.inj (show some vv27 = some xx from hx)).trans hy
      have qq28 : vv28 = .int .i64 ((4 * i) : Nat) := by obtain ⟨xx, hx, hy⟩ := hc.ok 28 _ rfl rfl; exact (Option.some.inj (show some vv28 = some xx from hx)).trans hy
      have qq29 : vv29 = .int .i64 ((4 * i + 3) : Nat) := by obtain ⟨xx, hx, hy⟩ := hc.ok 29 _ rfl rfl; exact (Option.some.inj (show some vv29 = some xx from hx)).trans hy
      have qq30 : vv30 = .pointer (some ⟨b, ob + (4 * i + 3), none⟩) := by obtain ⟨xx, hx, hy⟩ := hc.ok 30 _ rfl rfl; exact (Option.some.inj (show some vv30 = some xx from hx)).trans hy
      have qq31 : vv31 = .int .u8 (b3 : Nat) := by obtain ⟨xx, hx, hy⟩ := hc.ok 31 _ rfl rfl; exact (Option.some.inj (show some vv31 = some xx from hx)).trans hy
      have qq32 : vv32 = .int .u32 (b3 : Nat) := by obtain ⟨xx, hx, hy⟩ := hc.ok 32 _ rfl rfl; exact (Option.some.inj (show some vv32 = some xx from hx)).trans hy
      have qq33 : vv33 = .int .u32 (((((b0) * 2 ^ 24 % 4294967296) ||| ((b1) * 2 ^ 16 % 4294967296)) ||| ((b2) * 2 ^ 8 % 4294967296)) ||| (b3) : Nat) := by obtain ⟨xx, hx, hy⟩ := hc.ok 33 _ rfl rfl; exact (Option.some.inj (show some vv33 = some xx from hx)).trans hy
      have qq34 : vv34 = .pointer (some ⟨g7, i, none⟩) := by obtain ⟨xx, hx, hy⟩ := hc.ok 34 _ rfl rfl; exact (Option.some.inj (show some vv34 = some xx from hx)).trans hy
      have BZ := hc.bel
      clear hc
      subst qq0 qq1 qq2 qq3 qq4 qq5 qq6 qq7 qq8 qq9 qq10 qq11 qq12 qq13 qq14 qq15 qq16 qq17 qq18 qq19 qq20 qq21 qq22 qq23 qq24 qq25 qq26 qq27 qq28 qq29 qq30 qq31 qq32 qq33 qq34
      simp only [List.map_cons, List.map_nil, over, Act.put, List.setIfInBounds_toArray, List.set_cons_zero, List.set_cons_succ]
      refine store_cell (i := 35) _ _ _ _ _ _ g7 i (.int .u32 (((((b0) * 2 ^ 24 % 4294967296) ||| ((b1) * 2 ^ 16 % 4294967296)) ||| ((b2) * 2 ^ 8 % 4294967296)) ||| (b3) : Nat)) (by kernel_rfl) (by rfl) (by rfl) (by rfl) (fun ρ kx ky => store32 _ _ _ _ kx ky (cell_on BZ OLD) (FRZ _ BZ)) (Same.set (Same.of BZ) _) ?_
      refine wpAnyH_done (by kernel_rfl) ?_ _
      refine NoPanic.normal ?_
      have V4 := four_form b0 b1 b2 b3 hb0 hb1 hb2 hb3
      rw [V4]
      clear F0 F1 F2 F3 OLD FRZ V4
      have M7 := Lib.hid (Q7.out.on BZ)
      have M3 := Lib.hid (Q3.out.on BZ)
      have M6 := Lib.hid (Q6.out.on BZ)
      have MR := Lib.hid (QR.out.below BZ)
      have MK := Lib.hid (QK.out.on BZ)
      have MB := Lib.hid (bel_tr QB.out BZ)
      clear BZ Q7 Q3 Q6 QR QK QB
      obtain ⟨v, hv⟩ : ∃ v, val [b0, b1, b2, b3] = v := ⟨_, rfl⟩
      rw [hv] at F4 ⊢
      clear hv hb0 hb1 hb2 hb3
      go_wp2
      go_roundw
      case rel =>
        refine ⟨i + 1, by omega, by go_num, ?_, M3.out.far (p := ⟨g7, i, none⟩) (fun e => D37 e.symm) _, M6.out.far (p := ⟨g7, i, none⟩) (fun e => D67 e.symm) _, MR.out.grown (fun b' o' e => by injection e with e; injection e with e1 _; rw [← e1]; exact Dbg) (grown_set (grown_rf _ _) i _), MK.out.far (p := ⟨g7, i, none⟩) (fun e => Dkg e.symm) _, MB.out.setCell E7 _⟩
        have h := M7.out.set i (.int .u32 (v : Nat))
        have e := fill_set (first B i) (64 - i) v (by rw [first_len]; omega) (by omega)
        rw [first_len] at e
        rw [e, ← F4.out, show 64 - i - 1 = 64 - (i + 1) by omega] at h
        exact h
      case measure => simp [intOf]; omega
    · obtain rfl : i = 16 := by omega
      have M7 := Lib.hid P7
      have M3 := Lib.hid P3
      have M6 := Lib.hid P6
      have MR := Lib.hid PR
      have MK := Lib.hid PK
      have MB := Lib.hid PB
      clear P7 P3 P6 PR PK PB hlt hi
      have hlt' : ¬ ((16 : Nat) : Int) < 16 := by omega
      go_wp2
      clear hlt'
      go_loopw [9] (fun s' wr => ∃ l : List Nat, 16 ≤ l.length ∧ l.length ≤ 64 ∧ l = ext (first B 16) (l.length - 16) ∧ s' = .int .i64 l.length ∧ At wr g7 88 (hs (l ++ List.replicate (64 - l.length) 0)).toArray ∧ At wr g3 63 (hs s.list).toArray ∧ At wr g6 63 (hs (List.replicate 8 0)).toArray ∧ At wr gk 62 (hs cubes).toArray ∧ Below w.heap.size w wr) (fun s' _ => 64 - (intOf s').toNat)
      case atStart => exact ⟨first B 16, by rw [first_len]; omega, by rw [first_len]; omega, by rw [first_len]; rfl, by rw [first_len]; rfl, by have := M7.out; rwa [first_len], M3.out, M6.out, MK.out, MB.out⟩
      case round =>
        obtain ⟨l, hl1, hl2, hle, rfl, P7, P3, P6, PK, PB⟩ := hrel
        clear M7 M3 M6 MR MK MB
        by_cases hlt : l.length < 64
        · have LL := ext_lt _ (first_lt B HB.out 16) (l.length - 16)
          rw [← hle] at LL
          have F15 := P7.word (l.length - 15) (by simp; omega)
          have F2 := P7.word (l.length - 2) (by simp; omega)
          have F16 := P7.word (l.length - 16) (by simp; omega)
          have F7 := P7.word (l.length - 7) (by simp; omega)
          have OLD := P7.word l.length (by simp; omega)
          rw [getD_app _ _ _ (by omega)] at F15 F2 F16 F7
          have hx := getD_lt l LL (l.length - 15)
          have hy := getD_lt l LL (l.length - 2)
          have hp := getD_lt l LL (l.length - 16)
          have hq := getD_lt l LL (l.length - 7)
          have NXT := Lib.hid (show nextw l = (((l.getD (l.length - 16) 0 + l.getD (l.length - 7) 0) % 4294967296 + (turn (l.getD (l.length - 15) 0) [7, 18] ^^^ l.getD (l.length - 15) 0 / 2 ^ 3)) % 4294967296 + (turn (l.getD (l.length - 2) 0) [17, 19] ^^^ l.getD (l.length - 2) 0 / 2 ^ 10)) % 4294967296 from rfl)
          clear LL
          generalize l.getD (l.length - 15) 0 = x at *
          generalize l.getD (l.length - 2) 0 = y at *
          generalize l.getD (l.length - 16) 0 = p at *
          generalize l.getD (l.length - 7) 0 = q at *
          have t2 : ∀ z n1 n2, turn z [n1, n2] = rot z n1 ^^^ rot z n2 := fun z n1 n2 => by simp [turn]
          rw [t2, t2] at NXT
          have Q7 := Lib.hid P7
          have Q3 := Lib.hid P3
          have Q6 := Lib.hid P6
          have QK := Lib.hid PK
          have QB := Lib.hid PB
          have LG := P7.lt
          have HLE := Lib.hid hle
          have FRZ : ∀ w', Below wr.heap.size wr w' → w'.frozen? ⟨g7, l.length, none⟩ = false := fun w' hb => (Q7.out.on hb).frozen _
          clear P7 P3 P6 PK PB hle t2
          have hlt' : (l.length : Int) < 64 := by omega
          have a15 : (0 : Int) ≤ (l.length : Int) - 15 := by omega
          have c15 : (l.length : Int) - 15 < 64 := by omega
          have n15 : ((l.length : Int) - 15).toNat = l.length - 15 := by omega
          have a2 : (0 : Int) ≤ (l.length : Int) - 2 := by omega
          have c2 : (l.length : Int) - 2 < 64 := by omega
          have n2 : ((l.length : Int) - 2).toNat = l.length - 2 := by omega
          go_wp2
          clear a15 c15 n15 a2 c2 n2 F15 F2
          try simp only [List.append_eq, List.cons_append, List.nil_append]
          refine wp_region_noPanic ?_
          refine wp_region_held_drew (S := fun w' => Same wr ⟨g7, l.length, none⟩ w') (by kernel_rfl) (Same.drew _ _) (fun _ => ?_)
          refine wpAnyH_cores (fuel := 1) (⟨0, 70, [], Kind.val (.int .i64 (l.length : Nat)), true⟩ :: ⟨1, 71, [0], Kind.val (.int .i64 (l.length : Nat)), true⟩ :: ⟨2, 72, [1], Kind.val (.int .i64 ((l.length - 16) : Nat)), true⟩ :: ⟨3, 73, [2], Kind.val (.pointer (some ⟨g7, (l.length - 16), none⟩)), true⟩ :: ⟨4, 74, [3], Kind.val (.int .u32 (p : Nat)), true⟩ :: ⟨5, 75, [4], Kind.val (.int .i64 (l.length : Nat)), true⟩ :: ⟨6, 76, [5], Kind.val (.int .i64 ((l.length - 7) : Nat)), true⟩ :: ⟨7, 77, [6], Kind.val (.pointer (some ⟨g7, (l.length - 7), none⟩)), true⟩ :: ⟨8, 78, [7], Kind.val (.int .u32 (q : Nat)), true⟩ :: ⟨9, 79, [4, 8], Kind.val (.int .u32 ((p + q) % 4294967296 : Nat)), true⟩ :: ⟨10, 80, [9], Kind.val (.int .u32 (x : Nat)), true⟩ :: ⟨12, 82, [10], Kind.val (.int .u32 (x : Nat)), true⟩ :: ⟨15, 85, [11], Kind.val (.int .u32 (x : Nat)), true⟩ :: ⟨16, 86, [12], Kind.val (.int .u32 ((x) / 2 ^ 3 : Nat)), true⟩ :: ⟨19, 89, [13], Kind.val (.int .u32 (y : Nat)), true⟩ :: ⟨21, 91, [14], Kind.val (.int .u32 (y : Nat)), true⟩ :: ⟨24, 94, [15], Kind.val (.int .u32 (y : Nat)), true⟩ :: ⟨25, 95, [16], Kind.val (.int .u32 ((y) / 2 ^ 10 : Nat)), true⟩ :: ⟨11, 81, [10, 17], Kind.val (.int .u32 (rot x 7 : Nat)), false⟩ :: ⟨13, 83, [11, 17, 18], Kind.val (.int .u32 (rot x 18 : Nat)), false⟩ :: ⟨14, 84, [17, 18, 19], Kind.val (.int .u32 ((rot x 7) ^^^ (rot x 18) : Nat)), true⟩ :: ⟨17, 87, [13, 17, 20], Kind.val (.int .u32 (((rot x 7) ^^^ (rot x 18)) ^^^ ((x) / 2 ^ 3) : Nat)), true⟩ :: ⟨18, 88, [9, 17, 21], Kind.val (.int .u32 ((((p + q) % 4294967296) + (((rot x 7) ^^^ (rot x 18)) ^^^ ((x) / 2 ^ 3))) % 4294967296 : Nat)), true⟩ :: ⟨20, 90, [14, 17, 19], Kind.val (.int .u32 (rot y 17 : Nat)), false⟩ :: ⟨22, 92, [15, 17, 23], Kind.val (.int .u32 (rot y 19 : Nat)), false⟩ :: ⟨23, 93, [17, 23, 24], Kind.val (.int .u32 ((rot y 17) ^^^ (rot y 19) : Nat)), true⟩ :: ⟨26, 96, [17, 25], Kind.val (.int .u32 (((rot y 17) ^^^ (rot y 19)) ^^^ ((y) / 2 ^ 10) : Nat)), true⟩ :: ⟨27, 97, [17, 22, 26], Kind.val (.int .u32 ((((((p + q) % 4294967296) + (((rot x 7) ^^^ (rot x 18)) ^^^ ((x) / 2 ^ 3))) % 4294967296) + (((rot y 17) ^^^ (rot y 19)) ^^^ ((y) / 2 ^ 10))) % 4294967296 : Nat)), true⟩ :: ⟨28, 98, [0, 1, 2, 3, 4, 5, 6, 7, 8, 9, 10, 11, 12, 13, 14, 15, 16, 17, 18, 19, 20, 21, 22, 23, 24, 25, 26, 27], Kind.val (.pointer (some ⟨g7, l.length, none⟩)), true⟩ :: []) _ _ wr _ ?_ ?_ ?_ ?_ ?_ ?_ ?_ ?_ ?_ ?_ ?_
          · rfl
          · kernel_rfl
          · exact of_decide_eq_true (by kernel_rfl)
          · exact all_cons ⟨_, by rfl, by rfl⟩ (all_cons ⟨_, by rfl, by rfl⟩ (all_cons ⟨_, by rfl, by rfl⟩ (all_cons ⟨_, by rfl, by rfl⟩ (all_cons ⟨_, by rfl, by rfl⟩ (all_cons ⟨_, by rfl, by rfl⟩ (all_cons ⟨_, by rfl, by rfl⟩ (all_cons ⟨_, by rfl, by rfl⟩ (all_cons ⟨_, by rfl, by rfl⟩ (all_cons ⟨_, by rfl, by rfl⟩ (all_cons ⟨_, by rfl, by rfl⟩ (all_cons ⟨_, by rfl, by rfl⟩ (all_cons ⟨_, by rfl, by rfl⟩ (all_cons ⟨_, by rfl, by rfl⟩ (all_cons ⟨_, by rfl, by rfl⟩ (all_cons ⟨_, by rfl, by rfl⟩ (all_cons ⟨_, by rfl, by rfl⟩ (all_cons ⟨_, by rfl, by rfl⟩ (all_cons ⟨_, by rfl, by rfl⟩ (all_cons ⟨_, by rfl, by rfl⟩ (all_cons ⟨_, by rfl, by rfl⟩ (all_cons ⟨_, by rfl, by rfl⟩ (all_cons ⟨_, by rfl, by rfl⟩ (all_cons ⟨_, by rfl, by rfl⟩ (all_cons ⟨_, by rfl, by rfl⟩ (all_cons ⟨_, by rfl, by rfl⟩ (all_cons ⟨_, by rfl, by rfl⟩ (all_cons ⟨_, by rfl, by rfl⟩ (all_cons ⟨_, by rfl, by rfl⟩ (all_nil)))))))))))))))))))))))))))))
          · exact fun _ hb => Same.of hb
          · exact (Below.refl _ _).drew
          · kernel_rfl
          · exact fun _ _ _ _ _ h => h
          · refine all_cons ?_ (all_cons ?_ (all_cons ?_ (all_cons ?_ (all_cons ?_ (all_cons ?_ (all_cons ?_ (all_cons ?_ (all_cons ?_ (all_cons ?_ (all_cons ?_ (all_cons ?_ (all_cons ?_ (all_cons ?_ (all_cons ?_ (all_cons ?_ (all_cons ?_ (all_cons ?_ (all_cons ?_ (all_cons ?_ (all_cons ?_ (all_cons ?_ (all_cons ?_ (all_cons ?_ (all_cons ?_ (all_cons ?_ (all_cons ?_ (all_cons ?_ (all_cons ?_ (all_nil)))))))))))))))))))))))))))))
            · exact core_move _ _ _ _ _ _ (by rfl) (by rfl) (known_old 9 _ (of_decide_eq_true (by rfl)) (by rfl))
            · exact core_move _ _ _ _ _ _ (by rfl) (by rfl) (known_old 9 _ (of_decide_eq_true (by rfl)) (by rfl))
            · exact core_held2C _ _ _ _ _ _ _ _ _ _ (by rfl) (by rfl) (known_core 1 71 _ _ (of_decide_eq_true (by rfl)) (by rfl) (by rfl) (by rfl)) (known_const _) (fun ρ w kx ky hs => sub64 (l.length) (16) ((l.length - 16)) (by omega) (by omega) kx ky)
            · exact core_held2C _ _ _ _ _ _ _ _ _ _ (by rfl) (by rfl) (known_old 7 _ (of_decide_eq_true (by rfl)) (by rfl)) (known_core 2 72 _ _ (of_decide_eq_true (by rfl)) (by rfl) (by rfl) (by rfl)) (fun ρ w kx ky hs => at64 g7 ((l.length - 16)) (by omega) kx ky)
            · exact core_heldC _ _ _ _ _ _ _ _ (by rfl) (by rfl) (known_core 3 73 _ _ (of_decide_eq_true (by rfl)) (by rfl) (by rfl) (by rfl)) (fun ρ w kx hs => load32 _ _ _ kx ((hs _ LG (fun e => by injection e with e1 e2; omega)).trans (F16)))
            · exact core_move _ _ _ _ _ _ (by rfl) (by rfl) (known_old 9 _ (of_decide_eq_true (by rfl)) (by rfl))
            · exact core_held2C _ _ _ _ _ _ _ _ _ _ (by rfl) (by rfl) (known_core 5 75 _ _ (of_decide_eq_true (by rfl)) (by rfl) (by rfl) (by rfl)) (known_const _) (fun ρ w kx ky hs => sub64 (l.length) (7) ((l.length - 7)) (by omega) (by omega) kx ky)
            · exact core_held2C _ _ _ _ _ _ _ _ _ _ (by rfl) (by rfl) (known_old 7 _ (of_decide_eq_true (by rfl)) (by rfl)) (known_core 6 76 _ _ (of_decide_eq_true (by rfl)) (by rfl) (by rfl) (by rfl)) (fun ρ w kx ky hs => at64 g7 ((l.length - 7)) (by omega) kx ky)
            · exact core_heldC _ _ _ _ _ _ _ _ (by rfl) (by rfl) (known_core 7 77 _ _ (of_decide_eq_true (by rfl)) (by rfl) (by rfl) (by rfl)) (fun ρ w kx hs => load32 _ _ _ kx ((hs _ LG (fun e => by injection e with e1 e2; omega)).trans (F7)))
            · exact core_held2C _ _ _ _ _ _ _ _ _ _ (by rfl) (by rfl) (known_core 4 74 _ _ (of_decide_eq_true (by rfl)) (by rfl) (by rfl) (by rfl)) (known_core 8 78 _ _ (of_decide_eq_true (by rfl)) (by rfl) (by rfl) (by rfl)) (fun ρ w kx ky hs => add32 _ _ kx ky)
            · exact core_move _ _ _ _ _ _ (by rfl) (by rfl) (known_old 10 _ (of_decide_eq_true (by rfl)) (by rfl))
            · exact core_move _ _ _ _ _ _ (by rfl) (by rfl) (known_old 10 _ (of_decide_eq_true (by rfl)) (by rfl))
            · exact core_move _ _ _ _ _ _ (by rfl) (by rfl) (known_old 10 _ (of_decide_eq_true (by rfl)) (by rfl))
            · exact core_held2C _ _ _ _ _ _ _ _ _ _ (by rfl) (by rfl) (known_core 12 85 _ _ (of_decide_eq_true (by rfl)) (by rfl) (by rfl) (by rfl)) (known_const _) (fun ρ w kx ky hs => shr32 _ 3 (by decide) kx ky)
            · exact core_move _ _ _ _ _ _ (by rfl) (by rfl) (known_old 11 _ (of_decide_eq_true (by rfl)) (by rfl))
            · exact core_move _ _ _ _ _ _ (by rfl) (by rfl) (known_old 11 _ (of_decide_eq_true (by rfl)) (by rfl))
            · exact core_move _ _ _ _ _ _ (by rfl) (by rfl) (known_old 11 _ (of_decide_eq_true (by rfl)) (by rfl))
            · exact core_held2C _ _ _ _ _ _ _ _ _ _ (by rfl) (by rfl) (known_core 16 94 _ _ (of_decide_eq_true (by rfl)) (by rfl) (by rfl) (by rfl)) (known_const _) (fun ρ w kx ky hs => shr32 _ 10 (by decide) kx ky)
            · exact core_pureAs _ (by rfl)
            · exact core_pureAs _ (by rfl)
            · exact core_held2C _ _ _ _ _ _ _ _ _ _ (by rfl) (by rfl) (known_core 18 81 _ _ (of_decide_eq_true (by rfl)) (by rfl) (by rfl) (by rfl)) (known_core 19 83 _ _ (of_decide_eq_true (by rfl)) (by rfl) (by rfl) (by rfl)) (fun ρ w kx ky hs => xor32 _ _ (rot_lt (hx)) (rot_lt (hx)) kx ky)
            · exact core_held2C _ _ _ _ _ _ _ _ _ _ (by rfl) (by rfl) (known_core 20 84 _ _ (of_decide_eq_true (by rfl)) (by rfl) (by rfl) (by rfl)) (known_core 13 86 _ _ (of_decide_eq_true (by rfl)) (by rfl) (by rfl) (by rfl)) (fun ρ w kx ky hs => xor32 _ _ (lt32_xor (rot_lt (hx)) (rot_lt (hx))) (Nat.lt_of_le_of_lt (Nat.div_le_self _ _) (hx)) kx ky)
            · exact core_held2C _ _ _ _ _ _ _ _ _ _ (by rfl) (by rfl) (known_core 9 79 _ _ (of_decide_eq_true (by rfl)) (by rfl) (by rfl) (by rfl)) (known_core 21 87 _ _ (of_decide_eq_true (by rfl)) (by rfl) (by rfl) (by rfl)) (fun ρ w kx ky hs => add32 _ _ kx ky)
            · exact core_pureAs _ (by rfl)
            · exact core_pureAs _ (by rfl)
            · exact core_held2C _ _ _ _ _ _ _ _ _ _ (by rfl) (by rfl) (known_core 23 90 _ _ (of_decide_eq_true (by rfl)) (by rfl) (by rfl) (by rfl)) (known_core 24 92 _ _ (of_decide_eq_true (by rfl)) (by rfl) (by rfl) (by rfl)) (fun ρ w kx ky hs => xor32 _ _ (rot_lt (hy)) (rot_lt (hy)) kx ky)
            · exact core_held2C _ _ _ _ _ _ _ _ _ _ (by rfl) (by rfl) (known_core 25 93 _ _ (of_decide_eq_true (by rfl)) (by rfl) (by rfl) (by rfl)) (known_core 17 95 _ _ (of_decide_eq_true (by rfl)) (by rfl) (by rfl) (by rfl)) (fun ρ w kx ky hs => xor32 _ _ (lt32_xor (rot_lt (hy)) (rot_lt (hy))) (Nat.lt_of_le_of_lt (Nat.div_le_self _ _) (hy)) kx ky)
            · exact core_held2C _ _ _ _ _ _ _ _ _ _ (by rfl) (by rfl) (known_core 22 88 _ _ (of_decide_eq_true (by rfl)) (by rfl) (by rfl) (by rfl)) (known_core 26 96 _ _ (of_decide_eq_true (by rfl)) (by rfl) (by rfl) (by rfl)) (fun ρ w kx ky hs => add32 _ _ kx ky)
            · exact core_held2C _ _ _ _ _ _ _ _ _ _ (by rfl) (by rfl) (known_old 7 _ (of_decide_eq_true (by rfl)) (by rfl)) (known_core 0 70 _ _ (of_decide_eq_true (by rfl)) (by rfl) (by rfl) (by rfl)) (fun ρ w kx ky hs => at64 g7 (l.length) (by omega) kx ky)
          · refine all_cons ?_ (all_cons ?_ (all_cons ?_ (all_cons ?_ (all_cons ?_ (all_cons ?_ (all_cons ?_ (all_cons ?_ (all_cons ?_ (all_cons ?_ (all_cons ?_ (all_cons ?_ (all_cons ?_ (all_cons ?_ (all_cons ?_ (all_cons ?_ (all_cons ?_ (all_cons ?_ (all_cons ?_ (all_cons ?_ (all_cons ?_ (all_cons ?_ (all_cons ?_ (all_cons ?_ (all_cons ?_ (all_cons ?_ (all_cons ?_ (all_cons ?_ (all_cons ?_ (all_nil)))))))))))))))))))))))))))))
            · exact core_stepAs _ (by rfl)
            · exact core_stepAs _ (by rfl)
            · exact core_stepAs _ (by rfl)
            · exact core_stepAs _ (by rfl)
            · exact core_stepAs _ (by rfl)
            · exact core_stepAs _ (by rfl)
            · exact core_stepAs _ (by rfl)
            · exact core_stepAs _ (by rfl)
            · exact core_stepAs _ (by rfl)
            · exact core_stepAs _ (by rfl)
            · exact core_stepAs _ (by rfl)
            · exact core_stepAs _ (by rfl)
            · exact core_stepAs _ (by rfl)
            · exact core_stepAs _ (by rfl)
            · exact core_stepAs _ (by rfl)
            · exact core_stepAs _ (by rfl)
            · exact core_stepAs _ (by rfl)
            · exact core_stepAs _ (by rfl)
            · exact fun _ => core_call _ 82 _ _ [.tmp 80, .const (.int .u64 7)] _ _ _ _ _ _ (by rfl) Tryd.func82 (by kernel_rfl) (by rfl) (by rfl) (.cons (known_core 10 80 _ _ (of_decide_eq_true (by rfl)) (by rfl) (by rfl) (by rfl)) (.cons (known_const _) .nil)) (fun w => (round_ok x 7 (hx) (by decide) (by decide) w).mono fun e w' h => ⟨h.1, h.2 ▸ Below.refl _ _⟩)
            · exact fun _ => core_call _ 82 _ _ [.tmp 82, .const (.int .u64 18)] _ _ _ _ _ _ (by rfl) Tryd.func82 (by kernel_rfl) (by rfl) (by rfl) (.cons (known_core 11 82 _ _ (of_decide_eq_true (by rfl)) (by rfl) (by rfl) (by rfl)) (.cons (known_const _) .nil)) (fun w => (round_ok x 18 (hx) (by decide) (by decide) w).mono fun e w' h => ⟨h.1, h.2 ▸ Below.refl _ _⟩)
            · exact core_stepAs _ (by rfl)
            · exact core_stepAs _ (by rfl)
            · exact core_stepAs _ (by rfl)
            · exact fun _ => core_call _ 82 _ _ [.tmp 89, .const (.int .u64 17)] _ _ _ _ _ _ (by rfl) Tryd.func82 (by kernel_rfl) (by rfl) (by rfl) (.cons (known_core 14 89 _ _ (of_decide_eq_true (by rfl)) (by rfl) (by rfl) (by rfl)) (.cons (known_const _) .nil)) (fun w => (round_ok y 17 (hy) (by decide) (by decide) w).mono fun e w' h => ⟨h.1, h.2 ▸ Below.refl _ _⟩)
            · exact fun _ => core_call _ 82 _ _ [.tmp 91, .const (.int .u64 19)] _ _ _ _ _ _ (by rfl) Tryd.func82 (by kernel_rfl) (by rfl) (by rfl) (.cons (known_core 15 91 _ _ (of_decide_eq_true (by rfl)) (by rfl) (by rfl) (by rfl)) (.cons (known_const _) .nil)) (fun w => (round_ok y 19 (hy) (by decide) (by decide) w).mono fun e w' h => ⟨h.1, h.2 ▸ Below.refl _ _⟩)
            · exact core_stepAs _ (by rfl)
            · exact core_stepAs _ (by rfl)
            · exact core_stepAs _ (by rfl)
            · exact core_stepAs _ (by rfl)
          intro vs y2 hc
          obtain ⟨vv0, vv1, vv2, vv3, vv4, vv5, vv6, vv7, vv8, vv9, vv10, vv11, vv12, vv13, vv14, vv15, vv16, vv17, vv18, vv19, vv20, vv21, vv22, vv23, vv24, vv25, vv26, vv27, vv28, rfl⟩ := len29 vs hc.lv
          have qq0 : vv0 = .int .i64 (l.length : Nat) := by obtain ⟨xx, hx, hy⟩ := hc.ok 0 _ rfl rfl; exact (Option.some.inj (show some vv0 = some xx from hx)).trans hy
          have qq1 : vv1 = .int .i64 (l.length : Nat) := by obtain ⟨xx, hx, hy⟩ := hc.ok 1 _ rfl rfl; exact (Option.some.inj (show some vv1 = some xx from hx)).trans hy
          have qq2 : vv2 = .int .i64 ((l.length - 16) : Nat) := by obtain ⟨xx, hx, hy⟩ := hc.ok 2 _ rfl rfl; exact (Option.some.inj (show some vv2 = some xx from hx)).trans hy
          have qq3 : vv3 = .pointer (some ⟨g7, (l.length - 16), none⟩) := by obtain ⟨xx, hx, hy⟩ := hc.ok 3 _ rfl rfl; exact (Option.some.inj (show some vv3 = some xx from hx)).trans hy
          have qq4 : vv4 = .int .u32 (p : Nat) := by obtain ⟨xx, hx, hy⟩ := hc.ok 4 _ rfl rfl; exact (Option.some.inj (show some vv4 = some xx from hx)).trans hy
          have qq5 : vv5 = .int .i64 (l.length : Nat) := by obtain ⟨xx, hx, hy⟩ := hc.ok 5 _ rfl rfl; exact (Option.some.inj (show some vv5 = some xx from hx)).trans hy
          have qq6 : vv6 = .int .i64 ((l.length - 7) : Nat) := by obtain ⟨xx, hx, hy⟩ := hc.ok 6 _ rfl rfl; exact (Option.some.inj (show some vv6 = some xx from hx)).trans hy
          have qq7 : vv7 = .pointer (some ⟨g7, (l.length - 7), none⟩) := by obtain ⟨xx, hx, hy⟩ := hc.ok 7 _ rfl rfl; exact (Option.some.inj (show some vv7 = some xx from hx)).trans hy
          have qq8 : vv8 = .int .u32 (q : Nat) := by obtain ⟨xx, hx, hy⟩ := hc.ok 8 _ rfl rfl; exact (Option.some.inj (show some vv8 = some xx from hx)).trans hy
          have qq9 : vv9 = .int .u32 ((p + q) % 4294967296 : Nat) := by obtain ⟨xx, hx, hy⟩ := hc.ok 9 _ rfl rfl; exact (Option.some.inj (show some vv9 = some xx from hx)).trans hy
          have qq10 : vv10 = .int .u32 (x : Nat) := by obtain ⟨xx, hx, hy⟩ := hc.ok 10 _ rfl rfl; exact (Option.some.inj (show some vv10 = some xx from hx)).trans hy
          have qq11 : vv11 = .int .u32 (x : Nat) := by obtain ⟨xx, hx, hy⟩ := hc.ok 11 _ rfl rfl; exact (Option.some.inj (show some vv11 = some xx from hx)).trans hy
          have qq12 : vv12 = .int .u32 (x : Nat) := by obtain ⟨xx, hx, hy⟩ := hc.ok 12 _ rfl rfl; exact (Option.some.inj (show some vv12 = some xx from hx)).trans hy
          have qq13 : vv13 = .int .u32 ((x) / 2 ^ 3 : Nat) := by obtain ⟨xx, hx, hy⟩ := hc.ok 13 _ rfl rfl; exact (Option.some.inj (show some vv13 = some xx from hx)).trans hy
          have qq14 : vv14 = .int .u32 (y : Nat) := by obtain ⟨xx, hx, hy⟩ := hc.ok 14 _ rfl rfl; exact (Option.some.inj (show some vv14 = some xx from hx)).trans hy
          have qq15 : vv15 = .int .u32 (y : Nat) := by obtain ⟨xx, hx, hy⟩ := hc.ok 15 _ rfl rfl; exact (Option.some.inj (show some vv15 = some xx from hx)).trans hy
          have qq16 : vv16 = .int .u32 (y : Nat) := by obtain ⟨xx, hx, hy⟩ := hc.ok 16 _ rfl rfl; exact (Option.some.inj (show some vv16 = some xx from hx)).trans hy
          have qq17 : vv17 = .int .u32 ((y) / 2 ^ 10 : Nat) := by obtain ⟨xx, hx, hy⟩ := hc.ok 17 _ rfl rfl; exact (Option.some.inj (show some vv17 = some xx from hx)).trans hy
          have qq18 : vv18 = .int .u32 (rot x 7 : Nat) := by obtain ⟨xx, hx, hy⟩ := hc.ok 18 _ rfl rfl; exact (Option.some.inj (show some vv18 = some xx from hx)).trans hy
          have qq19 : vv19 = .int .u32 (rot x 18 : Nat) := by obtain ⟨xx, hx, hy⟩ := hc.ok 19 _ rfl rfl; exact (Option.some.inj (show some vv19 = some xx from hx)).trans hy
          have qq20 : vv20 = .int .u32 ((rot x 7) ^^^ (rot x 18) : Nat) := by obtain ⟨xx, hx, hy⟩ := hc.ok 20 _ rfl rfl; exact (Option.some.inj (show some vv20 = some xx from hx)).trans hy
          have qq21 : vv21 = .int .u32 (((rot x 7) ^^^ (rot x 18)) ^^^ ((x) / 2 ^ 3) : Nat) := by obtain ⟨xx, hx, hy⟩ := hc.ok 21 _ rfl rfl; exact (Option.some.inj (show some vv21 = some xx from hx)).trans hy
          have qq22 : vv22 = .int .u32 ((((p + q) % 4294967296) + (((rot x 7) ^^^ (rot x 18)) ^^^ ((x) / 2 ^ 3))) % 4294967296 : Nat) := by obtain ⟨xx, hx, hy⟩ := hc.ok 22 _ rfl rfl; exact (Option.some.inj (show some vv22 = some xx from hx)).trans hy
          have qq23 : vv23 = .int .u32 (rot y 17 : Nat) := by obtain ⟨xx, hx, hy⟩ := hc.ok 23 _ rfl rfl; exact (Option.some.inj (show some vv23 = some xx from hx)).trans hy
          have qq24 : vv24 = .int .u32 (rot y 19 : Nat) := by obtain ⟨xx, hx, hy⟩ := hc.ok 24 _ rfl rfl; exact (Option.some.inj (show some vv24 = some xx from hx)).trans hy
          have qq25 : vv25 = .int .u32 ((rot y 17) ^^^ (rot y 19) : Nat) := by obtain ⟨xx, hx, hy⟩ := hc.ok 25 _ rfl rfl; exact (Option.some.inj (show some vv25 = some xx from hx)).trans hy
          have qq26 : vv26 = .int .u32 (((rot y 17) ^^^ (rot y 19)) ^^^ ((y) / 2 ^ 10) : Nat) := by obtain ⟨xx, hx, hy⟩ := hc.ok 26 _ rfl rfl; exact (Option.some.inj (show some vv26 = some xx from hx)).trans hy
          have qq27 : vv27 = .int .u32 ((((((p + q) % 4294967296) + (((rot x 7) ^^^ (rot x 18)) ^^^ ((x) / 2 ^ 3))) % 4294967296) + (((rot y 17) ^^^ (rot y 19)) ^^^ ((y) / 2 ^ 10))) % 4294967296 : Nat) := by obtain ⟨xx, hx, hy⟩ := hc.ok 27 _ rfl rfl; exact (Option.some.inj (show some vv27 = some xx from hx)).trans hy
          have qq28 : vv28 = .pointer (some ⟨g7, l.length, none⟩) := by obtain ⟨xx, hx, hy⟩ := hc.ok 28 _ rfl rfl; exact (Option.some.inj (show some vv28 = some xx from hx)).trans hy
          have BZ := hc.bel
          clear hc
          subst qq0 qq1 qq2 qq3 qq4 qq5 qq6 qq7 qq8 qq9 qq10 qq11 qq12 qq13 qq14 qq15 qq16 qq17 qq18 qq19 qq20 qq21 qq22 qq23 qq24 qq25 qq26 qq27 qq28
          simp only [List.map_cons, List.map_nil, over, Act.put, List.setIfInBounds_toArray, List.set_cons_zero, List.set_cons_succ]
          refine store_cell (i := 29) _ _ _ _ _ _ g7 l.length (.int .u32 ((((((p + q) % 4294967296) + (((rot x 7) ^^^ (rot x 18)) ^^^ ((x) / 2 ^ 3))) % 4294967296) + (((rot y 17) ^^^ (rot y 19)) ^^^ ((y) / 2 ^ 10))) % 4294967296 : Nat)) (by kernel_rfl) (by rfl) (by rfl) (by rfl) (fun ρ kx ky => store32 _ _ _ _ kx ky (cell_on BZ OLD) (FRZ _ BZ)) (Same.set (Same.of BZ) _) ?_
          refine wpAnyH_done (by kernel_rfl) ?_ _
          refine NoPanic.normal ?_
          rw [← NXT.out]
          clear F16 F7 OLD NXT FRZ
          obtain ⟨nv, NV0⟩ : ∃ nv, nextw l = nv := ⟨_, rfl⟩
          have NV := Lib.hid NV0
          rw [NV0]
          clear NV0
          have M7 := Lib.hid (Q7.out.on BZ)
          have M3 := Lib.hid (Q3.out.on BZ)
          have M6 := Lib.hid (Q6.out.on BZ)
          have MK := Lib.hid (QK.out.on BZ)
          have MB := Lib.hid (bel_tr QB.out BZ)
          clear BZ Q7 Q3 Q6 QK QB hx hy hp hq
          go_wp2
          go_roundw
          case rel =>
            refine ⟨l ++ [nv], by simp; omega, by simp; omega, ?_, by simp, ?_, M3.out.far (p := ⟨g7, l.length, none⟩) (fun e => D37 e.symm) _, M6.out.far (p := ⟨g7, l.length, none⟩) (fun e => D67 e.symm) _, MK.out.far (p := ⟨g7, l.length, none⟩) (fun e => Dkg e.symm) _, MB.out.setCell E7 _⟩
            · rw [List.length_append, List.length_singleton, show l.length + 1 - 16 = (l.length - 16) + 1 by omega, ext, ← HLE.out, NV.out]
            · have h := M7.out.set l.length (.int .u32 (nv : Nat))
              rw [fill_set l (64 - l.length) _ (by omega) (by omega), show 64 - l.length - 1 = 64 - (l ++ [nv]).length by simp; omega] at h
              exact h
          case measure => simp [intOf]; omega
        · have e64 : l.length = 64 := by omega
          have hs64 : l = sched B := by rw [hle, e64]; rfl
          rw [e64, Nat.sub_self, List.replicate_zero, List.append_nil] at P7
          rw [e64]
          have WL := ext_lt _ (first_lt B HB.out 16) (l.length - 16)
          rw [← hle] at WL
          have HWL := Lib.hid WL
          have H64 := Lib.hid e64
          have HSC := Lib.hid hs64
          have M7 := Lib.hid P7
          have M3 := Lib.hid P3
          have M6 := Lib.hid P6
          have MK := Lib.hid PK
          have MB := Lib.hid PB
          have hs8 : Hid ((hs s.list).length = 8) := Lib.hid rfl
          have hso : Hid (∀ u ∈ hs s.list, u.oneCell' = true) := Lib.hid (hs_one _)
          clear P7 P3 P6 PK PB hle e64 hs64 WL hlt hl1 hl2
          have hlt' : ¬ ((64 : Nat) : Int) < 64 := by omega
          obtain ⟨xs, hxs⟩ : ∃ xs, hs s.list = xs := ⟨_, rfl⟩
          have HXS := Lib.hid hxs
          have ZS : Hid ((hs (List.replicate 8 0)).length = 8) := Lib.hid rfl
          obtain ⟨zs, hzs⟩ : ∃ zs, hs (List.replicate 8 0) = zs := ⟨_, rfl⟩
          have ZW := zero_w8
          rw [hzs] at ZW ZS M6
          rw [hxs] at M3 hs8 hso
          have HZW := Lib.hid ZW
          clear hxs hzs ZW
          go_wp2_with (first | (refine law_load (ty := 63) g3 0 xs _ rfl M3.out.all under_w8 rfl (by rw [size_w8, hs8.out]) ?_) | (refine law_alloc (d := 12) (ty := 63) _ HZW.out ?_; intro w8 N8; have H8 := Lib.hid N8; clear N8; refine law_store (ty := 63) wr.heap.size 0 _ zs.toArray xs rfl rfl H8.out.at_ (by rw [List.size_toArray, hs8.out, ZS.out]; omega) (by rw [size_w8, hs8.out]) hso.out ?_; intro w9 P9; have H9 := Lib.hid P9; clear P9))
          obtain ⟨g12, hg12⟩ : ∃ x, wr.heap.size = x := ⟨_, rfl⟩
          have D312 : g3 ≠ g12 := by have := M3.out.lt; omega
          have D712 : g7 ≠ g12 := by have := M7.out.lt; omega
          have D612 : g6 ≠ g12 := by have := M6.out.lt; omega
          have Dk12 : gk ≠ g12 := by have := MK.out.lt; omega
          have E12 : w.heap.size ≤ g12 := by have := MB.out.size; omega
          have hb8 := H8.out.bel
          have hg9 := H9.out.grown
          have h12 := H9.out.at_
          rw [put_all _ _ (by rw [hs8.out, ZS.out])] at h12
          rw [hg12] at hg9 h12 ⊢
          have K12 := Lib.hid h12
          have K7 := Lib.hid ((M7.out.on hb8).grown hg9 (by simpa using D712))
          have K3 := Lib.hid ((M3.out.on hb8).grown hg9 (by simpa using D312))
          have K6 := Lib.hid ((M6.out.on hb8).grown hg9 (by simpa using D612))
          have KK := Lib.hid ((MK.out.on hb8).grown hg9 (by simpa using Dk12))
          have KB : Hid (Below w.heap.size w w9) := Lib.hid ((bel_tr MB.out hb8).grown hg9 (by have := (bel_tr MB.out hb8).size; omega) (by simp; omega))
          clear hb8 hg9 h12 hg12 M7 M3 M6 MK MB H8 H9 HZW
          go_loopw [13] (fun s' wr => ∃ (i : Nat) (st : St), i ≤ 64 ∧ st = rounds cubes l s i ∧ s' = .int .i64 i ∧ At wr g12 63 (hs st.list).toArray ∧ At wr g7 88 (hs l).toArray ∧ At wr g3 63 xs.toArray ∧ At wr g6 63 zs.toArray ∧ At wr gk 62 (hs cubes).toArray ∧ Below w.heap.size w wr) (fun s' _ => 64 - (intOf s').toNat)
          case atStart => exact ⟨0, s, by omega, rfl, rfl, by rw [HXS.out]; exact K12.out, K7.out, K3.out, K6.out, KK.out, KB.out⟩
          case round =>
            obtain ⟨i, ⟨a, b, c, d, e, f, g, h⟩, hi, hst, rfl, P12, P7, P3, P6, PK, PB⟩ := hrel
            clear K12 K7 K3 K6 KK KB
            have QS := Lib.hid hst
            clear hst
            by_cases hlt : i < 64
            · have OK := QS.out ▸ rounds_ok (K := cubes) (W := l) HO.out i
              have oa := OK.a
              have ob' := OK.b
              have oc := OK.c
              have od := OK.d
              have oe := OK.e
              have of := OK.f
              have og := OK.g
              have oh := OK.h
              simp only at oa ob' oc od oe of og oh
              have ob := ob'
              have NX := Lib.hid (show rounds cubes l s (i + 1) = St.rnd ⟨a, b, c, d, e, f, g, h⟩ (cubes.getD i 0) (l.getD i 0) by rw [rounds, ← QS.out])
              have C0 : wr.cell? ⟨g12, 0, none⟩ = some (.int .u32 (a : Nat)) := P12.cell 0
              have C1 : wr.cell? ⟨g12, 1, none⟩ = some (.int .u32 (b : Nat)) := P12.cell 1
              have C2 : wr.cell? ⟨g12, 2, none⟩ = some (.int .u32 (c : Nat)) := P12.cell 2
              have C3 : wr.cell? ⟨g12, 3, none⟩ = some (.int .u32 (d : Nat)) := P12.cell 3
              have C4 : wr.cell? ⟨g12, 4, none⟩ = some (.int .u32 (e : Nat)) := P12.cell 4
              have C5 : wr.cell? ⟨g12, 5, none⟩ = some (.int .u32 (f : Nat)) := P12.cell 5
              have C6 : wr.cell? ⟨g12, 6, none⟩ = some (.int .u32 (g : Nat)) := P12.cell 6
              have C7 : wr.cell? ⟨g12, 7, none⟩ = some (.int .u32 (h : Nat)) := P12.cell 7
              have KC : wr.cell? ⟨gk, 0 + i, none⟩ = some (.int .u32 (cubes.getD i 0 : Nat)) := by rw [Nat.zero_add]; exact PK.word i (by rw [cubes_len]; exact hlt)
              have WC : wr.cell? ⟨g7, i, none⟩ = some (.int .u32 (l.getD i 0 : Nat)) := P7.word i (by rw [H64.out]; exact hlt)
              have okk := cubes_lt' i
              have oww := getD_lt l HWL.out i
              generalize cubes.getD i 0 = kk at *
              generalize l.getD i 0 = ww at *
              have L12 := P12.lt
              have LK := PK.lt
              have L7 := P7.lt
              have Q12 := Lib.hid P12
              have Q7 := Lib.hid P7
              have Q3 := Lib.hid P3
              have Q6 := Lib.hid P6
              have QK := Lib.hid PK
              have QB := Lib.hid PB
              have hlt' : (i : Int) < 64 := by omega
              clear OK P12 P7 P3 P6 PK PB
              go_wp2
              try simp only [List.append_eq, List.cons_append, List.nil_append]
              refine wp_region_noPanic ?_
              refine wp_region_held_drew (S := fun w' => Below wr.heap.size wr w') (by kernel_rfl) ((Below.refl _ _).drew) (fun _ => ?_)
              refine wpAnyH_cores (fuel := 1) (⟨0, 108, [], Kind.val (.pointer (some ⟨g12, 7, none⟩)), true⟩ :: ⟨1, 109, [0], Kind.val (.int .u32 (h : Nat)), true⟩ :: ⟨2, 110, [1], Kind.val (.int .u32 (e : Nat)), true⟩ :: ⟨4, 112, [2], Kind.val (.int .u32 (e : Nat)), true⟩ :: ⟨7, 115, [3], Kind.val (.int .u32 (e : Nat)), true⟩ :: ⟨11, 119, [4], Kind.val (.int .u32 (e : Nat)), true⟩ :: ⟨12, 120, [5], Kind.val (.pointer (some ⟨g12, 5, none⟩)), true⟩ :: ⟨13, 121, [6], Kind.val (.int .u32 (f : Nat)), true⟩ :: ⟨14, 122, [5, 7], Kind.val (.int .u32 ((e) &&& (f) : Nat)), true⟩ :: ⟨15, 123, [8], Kind.val (.int .u32 (e : Nat)), true⟩ :: ⟨16, 124, [9], Kind.val (.int .u32 ((4294967295 - (e)) : Nat)), true⟩ :: ⟨17, 125, [10], Kind.val (.pointer (some ⟨g12, 6, none⟩)), true⟩ :: ⟨18, 126, [11], Kind.val (.int .u32 (g : Nat)), true⟩ :: ⟨19, 127, [10, 12], Kind.val (.int .u32 (((4294967295 - (e))) &&& (g) : Nat)), true⟩ :: ⟨20, 128, [8, 13], Kind.val (.int .u32 (((e) &&& (f)) ^^^ (((4294967295 - (e))) &&& (g)) : Nat)), true⟩ :: ⟨22, 130, [14], Kind.val (.slice (some ⟨gk, 0, none⟩) 64 64), true⟩ :: ⟨23, 131, [15], Kind.val (.int .i64 (i : Nat)), true⟩ :: ⟨24, 132, [15, 16], Kind.val (.pointer (some ⟨gk, 0 + i, none⟩)), true⟩ :: ⟨25, 133, [17], Kind.val (.int .u32 (kk : Nat)), true⟩ :: ⟨27, 135, [18], Kind.val (.int .i64 (i : Nat)), true⟩ :: ⟨28, 136, [19], Kind.val (.pointer (some ⟨g7, i, none⟩)), true⟩ :: ⟨29, 137, [20], Kind.val (.int .u32 (ww : Nat)), true⟩ :: ⟨3, 111, [2, 21], Kind.val (.int .u32 (rot e 6 : Nat)), false⟩ :: ⟨5, 113, [3, 21, 22], Kind.val (.int .u32 (rot e 11 : Nat)), false⟩ :: ⟨6, 114, [21, 22, 23], Kind.val (.int .u32 ((rot e 6) ^^^ (rot e 11) : Nat)), true⟩ :: ⟨8, 116, [4, 21, 23], Kind.val (.int .u32 (rot e 25 : Nat)), false⟩ :: ⟨9, 117, [21, 24, 25], Kind.val (.int .u32 (((rot e 6) ^^^ (rot e 11)) ^^^ (rot e 25) : Nat)), true⟩ :: ⟨10, 118, [1, 21, 26], Kind.val (.int .u32 ((h + (((rot e 6) ^^^ (rot e 11)) ^^^ (rot e 25))) % 4294967296 : Nat)), true⟩ :: ⟨21, 129, [14, 21, 27], Kind.val (.int .u32 ((((h + (((rot e 6) ^^^ (rot e 11)) ^^^ (rot e 25))) % 4294967296) + (((e) &&& (f)) ^^^ (((4294967295 - (e))) &&& (g)))) % 4294967296 : Nat)), true⟩ :: ⟨26, 134, [18, 21, 28], Kind.val (.int .u32 ((((((h + (((rot e 6) ^^^ (rot e 11)) ^^^ (rot e 25))) % 4294967296) + (((e) &&& (f)) ^^^ (((4294967295 - (e))) &&& (g)))) % 4294967296) + kk) % 4294967296 : Nat)), true⟩ :: ⟨30, 138, [21, 29], Kind.val (.int .u32 ((((((((h + (((rot e 6) ^^^ (rot e 11)) ^^^ (rot e 25))) % 4294967296) + (((e) &&& (f)) ^^^ (((4294967295 - (e))) &&& (g)))) % 4294967296) + kk) % 4294967296) + ww) % 4294967296 : Nat)), true⟩ :: []) _ _ wr _ ?_ ?_ ?_ ?_ ?_ ?_ ?_ ?_ ?_ ?_ ?_
              · rfl
              · kernel_rfl
              · exact of_decide_eq_true (by kernel_rfl)
              · exact all_cons ⟨_, by rfl, by rfl⟩ (all_cons ⟨_, by rfl, by rfl⟩ (all_cons ⟨_, by rfl, by rfl⟩ (all_cons ⟨_, by rfl, by rfl⟩ (all_cons ⟨_, by rfl, by rfl⟩ (all_cons ⟨_, by rfl, by rfl⟩ (all_cons ⟨_, by rfl, by rfl⟩ (all_cons ⟨_, by rfl, by rfl⟩ (all_cons ⟨_, by rfl, by rfl⟩ (all_cons ⟨_, by rfl, by rfl⟩ (all_cons ⟨_, by rfl, by rfl⟩ (all_cons ⟨_, by rfl, by rfl⟩ (all_cons ⟨_, by rfl, by rfl⟩ (all_cons ⟨_, by rfl, by rfl⟩ (all_cons ⟨_, by rfl, by rfl⟩ (all_cons ⟨_, by rfl, by rfl⟩ (all_cons ⟨_, by rfl, by rfl⟩ (all_cons ⟨_, by rfl, by rfl⟩ (all_cons ⟨_, by rfl, by rfl⟩ (all_cons ⟨_, by rfl, by rfl⟩ (all_cons ⟨_, by rfl, by rfl⟩ (all_cons ⟨_, by rfl, by rfl⟩ (all_cons ⟨_, by rfl, by rfl⟩ (all_cons ⟨_, by rfl, by rfl⟩ (all_cons ⟨_, by rfl, by rfl⟩ (all_cons ⟨_, by rfl, by rfl⟩ (all_cons ⟨_, by rfl, by rfl⟩ (all_cons ⟨_, by rfl, by rfl⟩ (all_cons ⟨_, by rfl, by rfl⟩ (all_cons ⟨_, by rfl, by rfl⟩ (all_cons ⟨_, by rfl, by rfl⟩ (all_nil)))))))))))))))))))))))))))))))
              · exact fun _ hb => hb
              · exact (Below.refl _ _).drew
              · kernel_rfl
              · exact fun _ _ _ _ _ h => h
              · refine all_cons ?_ (all_cons ?_ (all_cons ?_ (all_cons ?_ (all_cons ?_ (all_cons ?_ (all_cons ?_ (all_cons ?_ (all_cons ?_ (all_cons ?_ (all_cons ?_ (all_cons ?_ (all_cons ?_ (all_cons ?_ (all_cons ?_ (all_cons ?_ (all_cons ?_ (all_cons ?_ (all_cons ?_ (all_cons ?_ (all_cons ?_ (all_cons ?_ (all_cons ?_ (all_cons ?_ (all_cons ?_ (all_cons ?_ (all_cons ?_ (all_cons ?_ (all_cons ?_ (all_cons ?_ (all_cons ?_ (all_nil)))))))))))))))))))))))))))))))
                · exact core_held2C _ _ _ _ _ _ _ _ _ _ (by rfl) (by rfl) (known_old 12 _ (of_decide_eq_true (by rfl)) (by rfl)) (known_const _) (fun ρ w kx ky hs => at8 g12 (7) (by omega) kx ky)
                · exact core_heldC _ _ _ _ _ _ _ _ (by rfl) (by rfl) (known_core 0 108 _ _ (of_decide_eq_true (by rfl)) (by rfl) (by rfl) (by rfl)) (fun ρ w kx hs => load32 _ _ _ kx ((hs.cell L12).trans (C7)))
                · exact core_move _ _ _ _ _ _ (by rfl) (by rfl) (known_old 15 _ (of_decide_eq_true (by rfl)) (by rfl))
                · exact core_move _ _ _ _ _ _ (by rfl) (by rfl) (known_old 15 _ (of_decide_eq_true (by rfl)) (by rfl))
                · exact core_move _ _ _ _ _ _ (by rfl) (by rfl) (known_old 15 _ (of_decide_eq_true (by rfl)) (by rfl))
                · exact core_move _ _ _ _ _ _ (by rfl) (by rfl) (known_old 15 _ (of_decide_eq_true (by rfl)) (by rfl))
                · exact core_held2C _ _ _ _ _ _ _ _ _ _ (by rfl) (by rfl) (known_old 12 _ (of_decide_eq_true (by rfl)) (by rfl)) (known_const _) (fun ρ w kx ky hs => at8 g12 (5) (by omega) kx ky)
                · exact core_heldC _ _ _ _ _ _ _ _ (by rfl) (by rfl) (known_core 6 120 _ _ (of_decide_eq_true (by rfl)) (by rfl) (by rfl) (by rfl)) (fun ρ w kx hs => load32 _ _ _ kx ((hs.cell L12).trans (C5)))
                · exact core_held2C _ _ _ _ _ _ _ _ _ _ (by rfl) (by rfl) (known_core 5 119 _ _ (of_decide_eq_true (by rfl)) (by rfl) (by rfl) (by rfl)) (known_core 7 121 _ _ (of_decide_eq_true (by rfl)) (by rfl) (by rfl) (by rfl)) (fun ρ w kx ky hs => and32 _ _ (oe) (of) kx ky)
                · exact core_move _ _ _ _ _ _ (by rfl) (by rfl) (known_old 15 _ (of_decide_eq_true (by rfl)) (by rfl))
                · exact core_heldC _ _ _ _ _ _ _ _ (by rfl) (by rfl) (known_core 9 123 _ _ (of_decide_eq_true (by rfl)) (by rfl) (by rfl) (by rfl)) (fun ρ w kx hs => not32 _ (oe) kx)
                · exact core_held2C _ _ _ _ _ _ _ _ _ _ (by rfl) (by rfl) (known_old 12 _ (of_decide_eq_true (by rfl)) (by rfl)) (known_const _) (fun ρ w kx ky hs => at8 g12 (6) (by omega) kx ky)
                · exact core_heldC _ _ _ _ _ _ _ _ (by rfl) (by rfl) (known_core 11 125 _ _ (of_decide_eq_true (by rfl)) (by rfl) (by rfl) (by rfl)) (fun ρ w kx hs => load32 _ _ _ kx ((hs.cell L12).trans (C6)))
                · exact core_held2C _ _ _ _ _ _ _ _ _ _ (by rfl) (by rfl) (known_core 10 124 _ _ (of_decide_eq_true (by rfl)) (by rfl) (by rfl) (by rfl)) (known_core 12 126 _ _ (of_decide_eq_true (by rfl)) (by rfl) (by rfl) (by rfl)) (fun ρ w kx ky hs => and32 _ _ (Nat.lt_of_le_of_lt (Nat.sub_le _ _) (by decide)) (og) kx ky)
                · exact core_held2C _ _ _ _ _ _ _ _ _ _ (by rfl) (by rfl) (known_core 8 122 _ _ (of_decide_eq_true (by rfl)) (by rfl) (by rfl) (by rfl)) (known_core 13 127 _ _ (of_decide_eq_true (by rfl)) (by rfl) (by rfl) (by rfl)) (fun ρ w kx ky hs => xor32 _ _ (lt32_and (oe)) (lt32_and (Nat.lt_of_le_of_lt (Nat.sub_le _ _) (by decide))) kx ky)
                · exact core_move _ _ _ _ _ _ (by rfl) (by rfl) (known_old 2 _ (of_decide_eq_true (by rfl)) (by rfl))
                · exact core_move _ _ _ _ _ _ (by rfl) (by rfl) (known_old 13 _ (of_decide_eq_true (by rfl)) (by rfl))
                · exact core_held2C _ _ _ _ _ _ _ _ _ _ (by rfl) (by rfl) (known_core 15 130 _ _ (of_decide_eq_true (by rfl)) (by rfl) (by rfl) (by rfl)) (known_core 16 131 _ _ (of_decide_eq_true (by rfl)) (by rfl) (by rfl) (by rfl)) (fun ρ w kx ky hs => atSw gk (0) (64) (64) (i) (by omega) kx ky)
                · exact core_heldC _ _ _ _ _ _ _ _ (by rfl) (by rfl) (known_core 17 132 _ _ (of_decide_eq_true (by rfl)) (by rfl) (by rfl) (by rfl)) (fun ρ w kx hs => load32 _ _ _ kx ((hs.cell LK).trans (KC)))
                · exact core_move _ _ _ _ _ _ (by rfl) (by rfl) (known_old 13 _ (of_decide_eq_true (by rfl)) (by rfl))
                · exact core_held2C _ _ _ _ _ _ _ _ _ _ (by rfl) (by rfl) (known_old 7 _ (of_decide_eq_true (by rfl)) (by rfl)) (known_core 19 135 _ _ (of_decide_eq_true (by rfl)) (by rfl) (by rfl) (by rfl)) (fun ρ w kx ky hs => at64 g7 (i) (by omega) kx ky)
                · exact core_heldC _ _ _ _ _ _ _ _ (by rfl) (by rfl) (known_core 20 136 _ _ (of_decide_eq_true (by rfl)) (by rfl) (by rfl) (by rfl)) (fun ρ w kx hs => load32 _ _ _ kx ((hs.cell L7).trans (WC)))
                · exact core_pureAs _ (by rfl)
                · exact core_pureAs _ (by rfl)
                · exact core_held2C _ _ _ _ _ _ _ _ _ _ (by rfl) (by rfl) (known_core 22 111 _ _ (of_decide_eq_true (by rfl)) (by rfl) (by rfl) (by rfl)) (known_core 23 113 _ _ (of_decide_eq_true (by rfl)) (by rfl) (by rfl) (by rfl)) (fun ρ w kx ky hs => xor32 _ _ (rot_lt (oe)) (rot_lt (oe)) kx ky)
                · exact core_pureAs _ (by rfl)
                · exact core_held2C _ _ _ _ _ _ _ _ _ _ (by rfl) (by rfl) (known_core 24 114 _ _ (of_decide_eq_true (by rfl)) (by rfl) (by rfl) (by rfl)) (known_core 25 116 _ _ (of_decide_eq_true (by rfl)) (by rfl) (by rfl) (by rfl)) (fun ρ w kx ky hs => xor32 _ _ (lt32_xor (rot_lt (oe)) (rot_lt (oe))) (rot_lt (oe)) kx ky)
                · exact core_held2C _ _ _ _ _ _ _ _ _ _ (by rfl) (by rfl) (known_core 1 109 _ _ (of_decide_eq_true (by rfl)) (by rfl) (by rfl) (by rfl)) (known_core 26 117 _ _ (of_decide_eq_true (by rfl)) (by rfl) (by rfl) (by rfl)) (fun ρ w kx ky hs => add32 _ _ kx ky)
                · exact core_held2C _ _ _ _ _ _ _ _ _ _ (by rfl) (by rfl) (known_core 27 118 _ _ (of_decide_eq_true (by rfl)) (by rfl) (by rfl) (by rfl)) (known_core 14 128 _ _ (of_decide_eq_true (by rfl)) (by rfl) (by rfl) (by rfl)) (fun ρ w kx ky hs => add32 _ _ kx ky)
                · exact core_held2C _ _ _ _ _ _ _ _ _ _ (by rfl) (by rfl) (known_core 28 129 _ _ (of_decide_eq_true (by rfl)) (by rfl) (by rfl) (by rfl)) (known_core 18 133 _ _ (of_decide_eq_true (by rfl)) (by rfl) (by rfl) (by rfl)) (fun ρ w kx ky hs => add32 _ _ kx ky)
                · exact core_held2C _ _ _ _ _ _ _ _ _ _ (by rfl) (by rfl) (known_core 29 134 _ _ (of_decide_eq_true (by rfl)) (by rfl) (by rfl) (by rfl)) (known_core 21 137 _ _ (of_decide_eq_true (by rfl)) (by rfl) (by rfl) (by rfl)) (fun ρ w kx ky hs => add32 _ _ kx ky)
              · refine all_cons ?_ (all_cons ?_ (all_cons ?_ (all_cons ?_ (all_cons ?_ (all_cons ?_ (all_cons ?_ (all_cons ?_ (all_cons ?_ (all_cons ?_ (all_cons ?_ (all_cons ?_ (all_cons ?_ (all_cons ?_ (all_cons ?_ (all_cons ?_ (all_cons ?_ (all_cons ?_ (all_cons ?_ (all_cons ?_ (all_cons ?_ (all_cons ?_ (all_cons ?_ (all_cons ?_ (all_cons ?_ (all_cons ?_ (all_cons ?_ (all_cons ?_ (all_cons ?_ (all_cons ?_ (all_cons ?_ (all_nil)))))))))))))))))))))))))))))))
                · exact core_stepAs _ (by rfl)
                · exact core_stepAs _ (by rfl)
                · exact core_stepAs _ (by rfl)
                · exact core_stepAs _ (by rfl)
                · exact core_stepAs _ (by rfl)
                · exact core_stepAs _ (by rfl)
                · exact core_stepAs _ (by rfl)
                · exact core_stepAs _ (by rfl)
                · exact core_stepAs _ (by rfl)
                · exact core_stepAs _ (by rfl)
                · exact core_stepAs _ (by rfl)
                · exact core_stepAs _ (by rfl)
                · exact core_stepAs _ (by rfl)
                · exact core_stepAs _ (by rfl)
                · exact core_stepAs _ (by rfl)
                · exact core_stepAs _ (by rfl)
                · exact core_stepAs _ (by rfl)
                · exact core_stepAs _ (by rfl)
                · exact core_stepAs _ (by rfl)
                · exact core_stepAs _ (by rfl)
                · exact core_stepAs _ (by rfl)
                · exact core_stepAs _ (by rfl)
                · exact fun _ => core_call _ 82 _ _ [.tmp 110, .const (.int .u64 6)] _ _ _ _ _ _ (by rfl) Tryd.func82 (by kernel_rfl) (by rfl) (by rfl) (.cons (known_core 2 110 _ _ (of_decide_eq_true (by rfl)) (by rfl) (by rfl) (by rfl)) (.cons (known_const _) .nil)) (fun w => (round_ok e 6 (oe) (by decide) (by decide) w).mono fun e w' h => ⟨h.1, h.2 ▸ Below.refl _ _⟩)
                · exact fun _ => core_call _ 82 _ _ [.tmp 112, .const (.int .u64 11)] _ _ _ _ _ _ (by rfl) Tryd.func82 (by kernel_rfl) (by rfl) (by rfl) (.cons (known_core 3 112 _ _ (of_decide_eq_true (by rfl)) (by rfl) (by rfl) (by rfl)) (.cons (known_const _) .nil)) (fun w => (round_ok e 11 (oe) (by decide) (by decide) w).mono fun e w' h => ⟨h.1, h.2 ▸ Below.refl _ _⟩)
                · exact core_stepAs _ (by rfl)
                · exact fun _ => core_call _ 82 _ _ [.tmp 115, .const (.int .u64 25)] _ _ _ _ _ _ (by rfl) Tryd.func82 (by kernel_rfl) (by rfl) (by rfl) (.cons (known_core 4 115 _ _ (of_decide_eq_true (by rfl)) (by rfl) (by rfl) (by rfl)) (.cons (known_const _) .nil)) (fun w => (round_ok e 25 (oe) (by decide) (by decide) w).mono fun e w' h => ⟨h.1, h.2 ▸ Below.refl _ _⟩)
                · exact core_stepAs _ (by rfl)
                · exact core_stepAs _ (by rfl)
                · exact core_stepAs _ (by rfl)
                · exact core_stepAs _ (by rfl)
                · exact core_stepAs _ (by rfl)
              intro vs y3 hc
              obtain ⟨vv0, vv1, vv2, vv3, vv4, vv5, vv6, vv7, vv8, vv9, vv10, vv11, vv12, vv13, vv14, vv15, vv16, vv17, vv18, vv19, vv20, vv21, vv22, vv23, vv24, vv25, vv26, vv27, vv28, vv29, vv30, rfl⟩ := len31 vs hc.lv
              have qq0 : vv0 = .pointer (some ⟨g12, 7, none⟩) := by obtain ⟨xx, hx, hy⟩ := hc.ok 0 _ rfl rfl; exact (Option.some.inj (show some vv0 = some xx from hx)).trans hy
              have qq1 : vv1 = .int .u32 (h : Nat) := by obtain ⟨xx, hx, hy⟩ := hc.ok 1 _ rfl rfl; exact (Option.some.inj (show some vv1 = some xx from hx)).trans hy
              have qq2 : vv2 = .int .u32 (e : Nat) := by obtain ⟨xx, hx, hy⟩ := hc.ok 2 _ rfl rfl; exact (Option.some.inj (show some vv2 = some xx from hx)).trans hy
              have qq3 : vv3 = .int .u32 (e : Nat) := by obtain ⟨xx, hx, hy⟩ := hc.ok 3 _ rfl rfl; exact (Option.some.inj (show some vv3 = some xx from hx)).trans hy
              have qq4 : vv4 = .int .u32 (e : Nat) := by obtain ⟨xx, hx, hy⟩ := hc.ok 4 _ rfl rfl; exact (Option.some.inj (show some vv4 = some xx from hx)).trans hy
              have qq5 : vv5 = .int .u32 (e : Nat) := by obtain ⟨xx, hx, hy⟩ := hc.ok 5 _ rfl rfl; exact (Option.some.inj (show some vv5 = some xx from hx)).trans hy
              have qq6 : vv6 = .pointer (some ⟨g12, 5, none⟩) := by obtain ⟨xx, hx, hy⟩ := hc.ok 6 _ rfl rfl; exact (Option.some.inj (show some vv6 = some xx from hx)).trans hy
              have qq7 : vv7 = .int .u32 (f : Nat) := by obtain ⟨xx, hx, hy⟩ := hc.ok 7 _ rfl rfl; exact (Option.some.inj (show some vv7 = some xx from hx)).trans hy
              have qq8 : vv8 = .int .u32 ((e) &&& (f) : Nat) := by obtain ⟨xx, hx, hy⟩ := hc.ok 8 _ rfl rfl; exact (Option.some.inj (show some vv8 = some xx from hx)).trans hy
              have qq9 : vv9 = .int .u32 (e : Nat) := by obtain ⟨xx, hx, hy⟩ := hc.ok 9 _ rfl rfl; exact (Option.some.inj (show some vv9 = some xx from hx)).trans hy
              have qq10 : vv10 = .int .u32 ((4294967295 - (e)) : Nat) := by obtain ⟨xx, hx, hy⟩ := hc.ok 10 _ rfl rfl; exact (Option.some.inj (show some vv10 = some xx from hx)).trans hy
              have qq11 : vv11 = .pointer (some ⟨g12, 6, none⟩) := by obtain ⟨xx, hx, hy⟩ := hc.ok 11 _ rfl rfl; exact (Option.some.inj (show some vv11 = some xx from hx)).trans hy
              have qq12 : vv12 = .int .u32 (g : Nat) := by obtain ⟨xx, hx, hy⟩ := hc.ok 12 _ rfl rfl; exact (Option.some.inj (show some vv12 = some xx from hx)).trans hy
              have qq13 : vv13 = .int .u32 (((4294967295 - (e))) &&& (g) : Nat) := by obtain ⟨xx, hx, hy⟩ := hc.ok 13 _ rfl rfl; exact (Option.some.inj (show some vv13 = some xx from hx)).trans hy
              have qq14 : vv14 = .int .u32 (((e) &&& (f)) ^^^ (((4294967295 - (e))) &&& (g)) : Nat) := by obtain ⟨xx, hx, hy⟩ := hc.ok 14 _ rfl rfl; exact (Option.some.inj (show some vv14 = some xx from hx)).trans hy
              have qq15 : vv15 = .slice (some ⟨gk, 0, none⟩) 64 64 := by obtain ⟨xx, hx, hy⟩ := hc.ok 15 _ rfl rfl; exact (Option.some.inj (show some vv15 = some xx from hx)).trans hy
              have qq16 : vv16 = .int .i64 (i : Nat) := by obtain ⟨xx, hx, hy⟩ := hc.ok 16 _ rfl rfl; exact (Option.some.inj (show some vv16 = some xx from hx)).trans hy
              have qq17 : vv17 = .pointer (some ⟨gk, 0 + i, none⟩) := by obtain ⟨xx, hx, hy⟩ := hc.ok 17 _ rfl rfl; exact (Option.some.inj (show some vv17 = some xx from hx)).trans hy
              have qq18 : vv18 = .int .u32 (kk : Nat) := by obtain ⟨xx, hx, hy⟩ := hc.ok 18 _ rfl rfl; exact (Option.some.inj (show some vv18 = some xx from hx)).trans hy
              have qq19 : vv19 = .int .i64 (i : Nat) := by obtain ⟨xx, hx, hy⟩ := hc.ok 19 _ rfl rfl; exact (Option.some.inj (show some vv19 = some xx from hx)).trans hy
              have qq20 : vv20 = .pointer (some ⟨g7, i, none⟩) := by obtain ⟨xx, hx, hy⟩ := hc.ok 20 _ rfl rfl; exact (Option.some.inj (show some vv20 = some xx from hx)).trans hy
              have qq21 : vv21 = .int .u32 (ww : Nat) := by obtain ⟨xx, hx, hy⟩ := hc.ok 21 _ rfl rfl; exact (Option.some.inj (show some vv21 = some xx from hx)).trans hy
              have qq22 : vv22 = .int .u32 (rot e 6 : Nat) := by obtain ⟨xx, hx, hy⟩ := hc.ok 22 _ rfl rfl; exact (Option.some.inj (show some vv22 = some xx from hx)).trans hy
              have qq23 : vv23 = .int .u32 (rot e 11 : Nat) := by obtain ⟨xx, hx, hy⟩ := hc.ok 23 _ rfl rfl; exact (Option.some.inj (show some vv23 = some xx from hx)).trans hy
              have qq24 : vv24 = .int .u32 ((rot e 6) ^^^ (rot e 11) : Nat) := by obtain ⟨xx, hx, hy⟩ := hc.ok 24 _ rfl rfl; exact (Option.some.inj (show some vv24 = some xx from hx)).trans hy
              have qq25 : vv25 = .int .u32 (rot e 25 : Nat) := by obtain ⟨xx, hx, hy⟩ := hc.ok 25 _ rfl rfl; exact (Option.some.inj (show some vv25 = some xx from hx)).trans hy
              have qq26 : vv26 = .int .u32 (((rot e 6) ^^^ (rot e 11)) ^^^ (rot e 25) : Nat) := by obtain ⟨xx, hx, hy⟩ := hc.ok 26 _ rfl rfl; exact (Option.some.inj (show some vv26 = some xx from hx)).trans hy
              have qq27 : vv27 = .int .u32 ((h + (((rot e 6) ^^^ (rot e 11)) ^^^ (rot e 25))) % 4294967296 : Nat) := by obtain ⟨xx, hx, hy⟩ := hc.ok 27 _ rfl rfl; exact (Option.some.inj (show some vv27 = some xx from hx)).trans hy
              have qq28 : vv28 = .int .u32 ((((h + (((rot e 6) ^^^ (rot e 11)) ^^^ (rot e 25))) % 4294967296) + (((e) &&& (f)) ^^^ (((4294967295 - (e))) &&& (g)))) % 4294967296 : Nat) := by obtain ⟨xx, hx, hy⟩ := hc.ok 28 _ rfl rfl; exact (Option.some.inj (show some vv28 = some xx from hx)).trans hy
              have qq29 : vv29 = .int .u32 ((((((h + (((rot e 6) ^^^ (rot e 11)) ^^^ (rot e 25))) % 4294967296) + (((e) &&& (f)) ^^^ (((4294967295 - (e))) &&& (g)))) % 4294967296) + kk) % 4294967296 : Nat) := by obtain ⟨xx, hx, hy⟩ := hc.ok 29 _ rfl rfl; exact (Option.some.inj (show some vv29 = some xx from hx)).trans hy
              have qq30 : vv30 = .int .u32 ((((((((h + (((rot e 6) ^^^ (rot e 11)) ^^^ (rot e 25))) % 4294967296) + (((e) &&& (f)) ^^^ (((4294967295 - (e))) &&& (g)))) % 4294967296) + kk) % 4294967296) + ww) % 4294967296 : Nat) := by obtain ⟨xx, hx, hy⟩ := hc.ok 30 _ rfl rfl; exact (Option.some.inj (show some vv30 = some xx from hx)).trans hy
              have BZ := hc.bel
              clear hc
              subst qq0 qq1 qq2 qq3 qq4 qq5 qq6 qq7 qq8 qq9 qq10 qq11 qq12 qq13 qq14 qq15 qq16 qq17 qq18 qq19 qq20 qq21 qq22 qq23 qq24 qq25 qq26 qq27 qq28 qq29 qq30
              simp only [List.map_cons, List.map_nil, over, Act.put, List.setIfInBounds_toArray, List.set_cons_zero, List.set_cons_succ]
              refine assign_one (i := 31) _ 16 _ _ _ (.int .u32 ((((((((h + (((rot e 6) ^^^ (rot e 11)) ^^^ (rot e 25))) % 4294967296) + (((e) &&& (f)) ^^^ (((4294967295 - (e))) &&& (g)))) % 4294967296) + kk) % 4294967296) + ww) % 4294967296 : Nat)) (by kernel_rfl) (by rfl) (by rfl) (BZ) ?_
              try simp only [Act.put, List.setIfInBounds_toArray, List.set_cons_zero, List.set_cons_succ]
              refine wpAnyH_done (by kernel_rfl) ?_ _
              refine NoPanic.normal ?_
              have C0 := cell_on BZ C0
              have C1 := cell_on BZ C1
              have C2 := cell_on BZ C2
              have C3 := cell_on BZ C3
              have C5 := cell_on BZ C5
              have C6 := cell_on BZ C6
              have L12 := Nat.lt_of_lt_of_le L12 BZ.size
              have M12 := Lib.hid (Q12.out.on BZ)
              have M7 := Lib.hid (Q7.out.on BZ)
              have M3 := Lib.hid (Q3.out.on BZ)
              have M6 := Lib.hid (Q6.out.on BZ)
              have MK := Lib.hid (QK.out.on BZ)
              have MB := Lib.hid (bel_tr QB.out BZ)
              have t3 : ∀ z n1 n2 n3, turn z [n1, n2, n3] = (rot z n1 ^^^ rot z n2) ^^^ rot z n3 := fun z n1 n2 n3 => by simp [turn]
              obtain ⟨t, ht⟩ : ∃ t, St.t ⟨a, b, c, d, e, f, g, h⟩ kk ww = t := ⟨_, rfl⟩
              have ht' : (((((((h + (((rot e 6) ^^^ (rot e 11)) ^^^ (rot e 25))) % 4294967296) + (((e) &&& (f)) ^^^ (((4294967295 - (e))) &&& (g)))) % 4294967296) + kk) % 4294967296) + ww) % 4294967296 = t := by rw [← ht, St.t, chf_xor oe og, t3]
              rw [ht']
              have HT := Lib.hid ht
              clear BZ Q12 Q7 Q3 Q6 QK QB ht ht' KC WC LK L7 okk oww
              go_wp2
              try simp only [List.append_eq, List.cons_append, List.nil_append]
              refine wp_region_noPanic ?_
              refine wp_region_held_drew (S := fun w' => Below y3.heap.size y3 w') (by kernel_rfl) ((Below.refl _ _).drew) (fun _ => ?_)
              refine wpAnyH_cores (fuel := 1) (⟨0, 139, [], Kind.val (.int .u32 (a : Nat)), true⟩ :: ⟨2, 141, [0], Kind.val (.int .u32 (a : Nat)), true⟩ :: ⟨5, 144, [1], Kind.val (.int .u32 (a : Nat)), true⟩ :: ⟨8, 147, [2], Kind.val (.int .u32 (a : Nat)), true⟩ :: ⟨9, 148, [3], Kind.val (.pointer (some ⟨g12, 1, none⟩)), true⟩ :: ⟨10, 149, [4], Kind.val (.int .u32 (b : Nat)), true⟩ :: ⟨11, 150, [3, 5], Kind.val (.int .u32 ((a) &&& (b) : Nat)), true⟩ :: ⟨12, 151, [6], Kind.val (.int .u32 (a : Nat)), true⟩ :: ⟨13, 152, [7], Kind.val (.pointer (some ⟨g12, 2, none⟩)), true⟩ :: ⟨14, 153, [8], Kind.val (.int .u32 (c : Nat)), true⟩ :: ⟨15, 154, [7, 9], Kind.val (.int .u32 ((a) &&& (c) : Nat)), true⟩ :: ⟨16, 155, [6, 10], Kind.val (.int .u32 (((a) &&& (b)) ||| ((a) &&& (c)) : Nat)), true⟩ :: ⟨17, 156, [11], Kind.val (.pointer (some ⟨g12, 1, none⟩)), true⟩ :: ⟨18, 157, [12], Kind.val (.int .u32 (b : Nat)), true⟩ :: ⟨19, 158, [13], Kind.val (.pointer (some ⟨g12, 2, none⟩)), true⟩ :: ⟨20, 159, [14], Kind.val (.int .u32 (c : Nat)), true⟩ :: ⟨21, 160, [13, 15], Kind.val (.int .u32 ((b) &&& (c) : Nat)), true⟩ :: ⟨22, 161, [11, 16], Kind.val (.int .u32 ((((a) &&& (b)) ||| ((a) &&& (c))) ||| ((b) &&& (c)) : Nat)), true⟩ :: ⟨1, 140, [0, 17], Kind.val (.int .u32 (rot a 2 : Nat)), false⟩ :: ⟨3, 142, [1, 17, 18], Kind.val (.int .u32 (rot a 13 : Nat)), false⟩ :: ⟨4, 143, [17, 18, 19], Kind.val (.int .u32 ((rot a 2) ^^^ (rot a 13) : Nat)), true⟩ :: ⟨6, 145, [2, 17, 19], Kind.val (.int .u32 (rot a 22 : Nat)), false⟩ :: ⟨7, 146, [17, 20, 21], Kind.val (.int .u32 (((rot a 2) ^^^ (rot a 13)) ^^^ (rot a 22) : Nat)), true⟩ :: ⟨23, 162, [17, 22], Kind.val (.int .u32 (((((rot a 2) ^^^ (rot a 13)) ^^^ (rot a 22)) + ((((a) &&& (b)) ||| ((a) &&& (c))) ||| ((b) &&& (c)))) % 4294967296 : Nat)), true⟩ :: []) _ _ y3 _ ?_ ?_ ?_ ?_ ?_ ?_ ?_ ?_ ?_ ?_ ?_
              · rfl
              · kernel_rfl
              · exact of_decide_eq_true (by kernel_rfl)
              · exact all_cons ⟨_, by rfl, by rfl⟩ (all_cons ⟨_, by rfl, by rfl⟩ (all_cons ⟨_, by rfl, by rfl⟩ (all_cons ⟨_, by rfl, by rfl⟩ (all_cons ⟨_, by rfl, by rfl⟩ (all_cons ⟨_, by rfl, by rfl⟩ (all_cons ⟨_, by rfl, by rfl⟩ (all_cons ⟨_, by rfl, by rfl⟩ (all_cons ⟨_, by rfl, by rfl⟩ (all_cons ⟨_, by rfl, by rfl⟩ (all_cons ⟨_, by rfl, by rfl⟩ (all_cons ⟨_, by rfl, by rfl⟩ (all_cons ⟨_, by rfl, by rfl⟩ (all_cons ⟨_, by rfl, by rfl⟩ (all_cons ⟨_, by rfl, by rfl⟩ (all_cons ⟨_, by rfl, by rfl⟩ (all_cons ⟨_, by rfl, by rfl⟩ (all_cons ⟨_, by rfl, by rfl⟩ (all_cons ⟨_, by rfl, by rfl⟩ (all_cons ⟨_, by rfl, by rfl⟩ (all_cons ⟨_, by rfl, by rfl⟩ (all_cons ⟨_, by rfl, by rfl⟩ (all_cons ⟨_, by rfl, by rfl⟩ (all_cons ⟨_, by rfl, by rfl⟩ (all_nil))))))))))))))))))))))))
              · exact fun _ hb => hb
              · exact (Below.refl _ _).drew
              · kernel_rfl
              · exact fun _ _ _ _ _ h => h
              · refine all_cons ?_ (all_cons ?_ (all_cons ?_ (all_cons ?_ (all_cons ?_ (all_cons ?_ (all_cons ?_ (all_cons ?_ (all_cons ?_ (all_cons ?_ (all_cons ?_ (all_cons ?_ (all_cons ?_ (all_cons ?_ (all_cons ?_ (all_cons ?_ (all_cons ?_ (all_cons ?_ (all_cons ?_ (all_cons ?_ (all_cons ?_ (all_cons ?_ (all_cons ?_ (all_cons ?_ (all_nil))))))))))))))))))))))))
                · exact core_move _ _ _ _ _ _ (by rfl) (by rfl) (known_old 14 _ (of_decide_eq_true (by rfl)) (by rfl))
                · exact core_move _ _ _ _ _ _ (by rfl) (by rfl) (known_old 14 _ (of_decide_eq_true (by rfl)) (by rfl))
                · exact core_move _ _ _ _ _ _ (by rfl) (by rfl) (known_old 14 _ (of_decide_eq_true (by rfl)) (by rfl))
                · exact core_move _ _ _ _ _ _ (by rfl) (by rfl) (known_old 14 _ (of_decide_eq_true (by rfl)) (by rfl))
                · exact core_held2C _ _ _ _ _ _ _ _ _ _ (by rfl) (by rfl) (known_old 12 _ (of_decide_eq_true (by rfl)) (by rfl)) (known_const _) (fun ρ w kx ky hs => at8 g12 (1) (by omega) kx ky)
                · exact core_heldC _ _ _ _ _ _ _ _ (by rfl) (by rfl) (known_core 4 148 _ _ (of_decide_eq_true (by rfl)) (by rfl) (by rfl) (by rfl)) (fun ρ w kx hs => load32 _ _ _ kx ((hs.cell L12).trans (C1)))
                · exact core_held2C _ _ _ _ _ _ _ _ _ _ (by rfl) (by rfl) (known_core 3 147 _ _ (of_decide_eq_true (by rfl)) (by rfl) (by rfl) (by rfl)) (known_core 5 149 _ _ (of_decide_eq_true (by rfl)) (by rfl) (by rfl) (by rfl)) (fun ρ w kx ky hs => and32 _ _ (oa) (ob) kx ky)
                · exact core_move _ _ _ _ _ _ (by rfl) (by rfl) (known_old 14 _ (of_decide_eq_true (by rfl)) (by rfl))
                · exact core_held2C _ _ _ _ _ _ _ _ _ _ (by rfl) (by rfl) (known_old 12 _ (of_decide_eq_true (by rfl)) (by rfl)) (known_const _) (fun ρ w kx ky hs => at8 g12 (2) (by omega) kx ky)
                · exact core_heldC _ _ _ _ _ _ _ _ (by rfl) (by rfl) (known_core 8 152 _ _ (of_decide_eq_true (by rfl)) (by rfl) (by rfl) (by rfl)) (fun ρ w kx hs => load32 _ _ _ kx ((hs.cell L12).trans (C2)))
                · exact core_held2C _ _ _ _ _ _ _ _ _ _ (by rfl) (by rfl) (known_core 7 151 _ _ (of_decide_eq_true (by rfl)) (by rfl) (by rfl) (by rfl)) (known_core 9 153 _ _ (of_decide_eq_true (by rfl)) (by rfl) (by rfl) (by rfl)) (fun ρ w kx ky hs => and32 _ _ (oa) (oc) kx ky)
                · exact core_held2C _ _ _ _ _ _ _ _ _ _ (by rfl) (by rfl) (known_core 6 150 _ _ (of_decide_eq_true (by rfl)) (by rfl) (by rfl) (by rfl)) (known_core 10 154 _ _ (of_decide_eq_true (by rfl)) (by rfl) (by rfl) (by rfl)) (fun ρ w kx ky hs => or32 _ _ (lt32_and (oa)) (lt32_and (oa)) kx ky)
                · exact core_held2C _ _ _ _ _ _ _ _ _ _ (by rfl) (by rfl) (known_old 12 _ (of_decide_eq_true (by rfl)) (by rfl)) (known_const _) (fun ρ w kx ky hs => at8 g12 (1) (by omega) kx ky)
                · exact core_heldC _ _ _ _ _ _ _ _ (by rfl) (by rfl) (known_core 12 156 _ _ (of_decide_eq_true (by rfl)) (by rfl) (by rfl) (by rfl)) (fun ρ w kx hs => load32 _ _ _ kx ((hs.cell L12).trans (C1)))
                · exact core_held2C _ _ _ _ _ _ _ _ _ _ (by rfl) (by rfl) (known_old 12 _ (of_decide_eq_true (by rfl)) (by rfl)) (known_const _) (fun ρ w kx ky hs => at8 g12 (2) (by omega) kx ky)
                · exact core_heldC _ _ _ _ _ _ _ _ (by rfl) (by rfl) (known_core 14 158 _ _ (of_decide_eq_true (by rfl)) (by rfl) (by rfl) (by rfl)) (fun ρ w kx hs => load32 _ _ _ kx ((hs.cell L12).trans (C2)))
                · exact core_held2C _ _ _ _ _ _ _ _ _ _ (by rfl) (by rfl) (known_core 13 157 _ _ (of_decide_eq_true (by rfl)) (by rfl) (by rfl) (by rfl)) (known_core 15 159 _ _ (of_decide_eq_true (by rfl)) (by rfl) (by rfl) (by rfl)) (fun ρ w kx ky hs => and32 _ _ (ob) (oc) kx ky)
                · exact core_held2C _ _ _ _ _ _ _ _ _ _ (by rfl) (by rfl) (known_core 11 155 _ _ (of_decide_eq_true (by rfl)) (by rfl) (by rfl) (by rfl)) (known_core 16 160 _ _ (of_decide_eq_true (by rfl)) (by rfl) (by rfl) (by rfl)) (fun ρ w kx ky hs => or32 _ _ (lt32_or (lt32_and (oa)) (lt32_and (oa))) (lt32_and (ob)) kx ky)
                · exact core_pureAs _ (by rfl)
                · exact core_pureAs _ (by rfl)
                · exact core_held2C _ _ _ _ _ _ _ _ _ _ (by rfl) (by rfl) (known_core 18 140 _ _ (of_decide_eq_true (by rfl)) (by rfl) (by rfl) (by rfl)) (known_core 19 142 _ _ (of_decide_eq_true (by rfl)) (by rfl) (by rfl) (by rfl)) (fun ρ w kx ky hs => xor32 _ _ (rot_lt (oa)) (rot_lt (oa)) kx ky)
                · exact core_pureAs _ (by rfl)
                · exact core_held2C _ _ _ _ _ _ _ _ _ _ (by rfl) (by rfl) (known_core 20 143 _ _ (of_decide_eq_true (by rfl)) (by rfl) (by rfl) (by rfl)) (known_core 21 145 _ _ (of_decide_eq_true (by rfl)) (by rfl) (by rfl) (by rfl)) (fun ρ w kx ky hs => xor32 _ _ (lt32_xor (rot_lt (oa)) (rot_lt (oa))) (rot_lt (oa)) kx ky)
                · exact core_held2C _ _ _ _ _ _ _ _ _ _ (by rfl) (by rfl) (known_core 22 146 _ _ (of_decide_eq_true (by rfl)) (by rfl) (by rfl) (by rfl)) (known_core 17 161 _ _ (of_decide_eq_true (by rfl)) (by rfl) (by rfl) (by rfl)) (fun ρ w kx ky hs => add32 _ _ kx ky)
              · refine all_cons ?_ (all_cons ?_ (all_cons ?_ (all_cons ?_ (all_cons ?_ (all_cons ?_ (all_cons ?_ (all_cons ?_ (all_cons ?_ (all_cons ?_ (all_cons ?_ (all_cons ?_ (all_cons ?_ (all_cons ?_ (all_cons ?_ (all_cons ?_ (all_cons ?_ (all_cons ?_ (all_cons ?_ (all_cons ?_ (all_cons ?_ (all_cons ?_ (all_cons ?_ (all_cons ?_ (all_nil))))))))))))))))))))))))
                · exact core_stepAs _ (by rfl)
                · exact core_stepAs _ (by rfl)
                · exact core_stepAs _ (by rfl)
                · exact core_stepAs _ (by rfl)
                · exact core_stepAs _ (by rfl)
                · exact core_stepAs _ (by rfl)
                · exact core_stepAs _ (by rfl)
                · exact core_stepAs _ (by rfl)
                · exact core_stepAs _ (by rfl)
                · exact core_stepAs _ (by rfl)
                · exact core_stepAs _ (by rfl)
                · exact core_stepAs _ (by rfl)
                · exact core_stepAs _ (by rfl)
                · exact core_stepAs _ (by rfl)
                · exact core_stepAs _ (by rfl)
                · exact core_stepAs _ (by rfl)
                · exact core_stepAs _ (by rfl)
                · exact core_stepAs _ (by rfl)
                · exact fun _ => core_call _ 82 _ _ [.tmp 139, .const (.int .u64 2)] _ _ _ _ _ _ (by rfl) Tryd.func82 (by kernel_rfl) (by rfl) (by rfl) (.cons (known_core 0 139 _ _ (of_decide_eq_true (by rfl)) (by rfl) (by rfl) (by rfl)) (.cons (known_const _) .nil)) (fun w => (round_ok a 2 (oa) (by decide) (by decide) w).mono fun e w' h => ⟨h.1, h.2 ▸ Below.refl _ _⟩)
                · exact fun _ => core_call _ 82 _ _ [.tmp 141, .const (.int .u64 13)] _ _ _ _ _ _ (by rfl) Tryd.func82 (by kernel_rfl) (by rfl) (by rfl) (.cons (known_core 1 141 _ _ (of_decide_eq_true (by rfl)) (by rfl) (by rfl) (by rfl)) (.cons (known_const _) .nil)) (fun w => (round_ok a 13 (oa) (by decide) (by decide) w).mono fun e w' h => ⟨h.1, h.2 ▸ Below.refl _ _⟩)
                · exact core_stepAs _ (by rfl)
                · exact fun _ => core_call _ 82 _ _ [.tmp 144, .const (.int .u64 22)] _ _ _ _ _ _ (by rfl) Tryd.func82 (by kernel_rfl) (by rfl) (by rfl) (.cons (known_core 2 144 _ _ (of_decide_eq_true (by rfl)) (by rfl) (by rfl) (by rfl)) (.cons (known_const _) .nil)) (fun w => (round_ok a 22 (oa) (by decide) (by decide) w).mono fun e w' h => ⟨h.1, h.2 ▸ Below.refl _ _⟩)
                · exact core_stepAs _ (by rfl)
                · exact core_stepAs _ (by rfl)
              intro vs y4 hc
              obtain ⟨vv0, vv1, vv2, vv3, vv4, vv5, vv6, vv7, vv8, vv9, vv10, vv11, vv12, vv13, vv14, vv15, vv16, vv17, vv18, vv19, vv20, vv21, vv22, vv23, rfl⟩ := len24 vs hc.lv
              have qq0 : vv0 = .int .u32 (a : Nat) := by obtain ⟨xx, hx, hy⟩ := hc.ok 0 _ rfl rfl; exact (Option.some.inj (show some vv0 = some xx from hx)).trans hy
              have qq1 : vv1 = .int .u32 (a : Nat) := by obtain ⟨xx, hx, hy⟩ := hc.ok 1 _ rfl rfl; exact (Option.some.inj (show some vv1 = some xx from hx)).trans hy
              have qq2 : vv2 = .int .u32 (a : Nat) := by obtain ⟨xx, hx, hy⟩ := hc.ok 2 _ rfl rfl; exact (Option.some.inj (show some vv2 = some xx from hx)).trans hy
              have qq3 : vv3 = .int .u32 (a : Nat) := by obtain ⟨xx, hx, hy⟩ := hc.ok 3 _ rfl rfl; exact (Option.some.inj (show some vv3 = some xx from hx)).trans hy
              have qq4 : vv4 = .pointer (some ⟨g12, 1, none⟩) := by obtain ⟨xx, hx, hy⟩ := hc.ok 4 _ rfl rfl; exact (Option.some.inj (show some vv4 = some xx from hx)).trans hy
              have qq5 : vv5 = .int .u32 (b : Nat) := by obtain ⟨xx, hx, hy⟩ := hc.ok 5 _ rfl rfl; exact (Option.some.inj (show some vv5 = some xx from hx)).trans hy
              have qq6 : vv6 = .int .u32 ((a) &&& (b) : Nat) := by obtain ⟨xx, hx, hy⟩ := hc.ok 6 _ rfl rfl; exact (Option.some.inj (show some vv6 = some xx from hx)).trans hy
              have qq7 : vv7 = .int .u32 (a : Nat) := by obtain ⟨xx, hx, hy⟩ := hc.ok 7 _ rfl rfl; exact (Option.some.inj (show some vv7 = some xx from hx)).trans hy
              have qq8 : vv8 = .pointer (some ⟨g12, 2, none⟩) := by obtain ⟨xx, hx, hy⟩ := hc.ok 8 _ rfl rfl; exact (Option.some.inj (show some vv8 = some xx from hx)).trans hy
              have qq9 : vv9 = .int .u32 (c : Nat) := by obtain ⟨xx, hx, hy⟩ := hc.ok 9 _ rfl rfl; exact (Option.some.inj (show some vv9 = some xx from hx)).trans hy
              have qq10 : vv10 = .int .u32 ((a) &&& (c) : Nat) := by obtain ⟨xx, hx, hy⟩ := hc.ok 10 _ rfl rfl; exact (Option.some.inj (show some vv10 = some xx from hx)).trans hy
              have qq11 : vv11 = .int .u32 (((a) &&& (b)) ||| ((a) &&& (c)) : Nat) := by obtain ⟨xx, hx, hy⟩ := hc.ok 11 _ rfl rfl; exact (Option.some.inj (show some vv11 = some xx from hx)).trans hy
              have qq12 : vv12 = .pointer (some ⟨g12, 1, none⟩) := by obtain ⟨xx, hx, hy⟩ := hc.ok 12 _ rfl rfl; exact (Option.some.inj (show some vv12 = some xx from hx)).trans hy
              have qq13 : vv13 = .int .u32 (b : Nat) := by obtain ⟨xx, hx, hy⟩ := hc.ok 13 _ rfl rfl; exact (Option.some.inj (show some vv13 = some xx from hx)).trans hy
              have qq14 : vv14 = .pointer (some ⟨g12, 2, none⟩) := by obtain ⟨xx, hx, hy⟩ := hc.ok 14 _ rfl rfl; exact (Option.some.inj (show some vv14 = some xx from hx)).trans hy
              have qq15 : vv15 = .int .u32 (c : Nat) := by obtain ⟨xx, hx, hy⟩ := hc.ok 15 _ rfl rfl; exact (Option.some.inj (show some vv15 = some xx from hx)).trans hy
              have qq16 : vv16 = .int .u32 ((b) &&& (c) : Nat) := by obtain ⟨xx, hx, hy⟩ := hc.ok 16 _ rfl rfl; exact (Option.some.inj (show some vv16 = some xx from hx)).trans hy
              have qq17 : vv17 = .int .u32 ((((a) &&& (b)) ||| ((a) &&& (c))) ||| ((b) &&& (c)) : Nat) := by obtain ⟨xx, hx, hy⟩ := hc.ok 17 _ rfl rfl; exact (Option.some.inj (show some vv17 = some xx from hx)).trans hy
              have qq18 : vv18 = .int .u32 (rot a 2 : Nat) := by obtain ⟨xx, hx, hy⟩ := hc.ok 18 _ rfl rfl; exact (Option.some.inj (show some vv18 = some xx from hx)).trans hy
              have qq19 : vv19 = .int .u32 (rot a 13 : Nat) := by obtain ⟨xx, hx, hy⟩ := hc.ok 19 _ rfl rfl; exact (Option.some.inj (show some vv19 = some xx from hx)).trans hy
              have qq20 : vv20 = .int .u32 ((rot a 2) ^^^ (rot a 13) : Nat) := by obtain ⟨xx, hx, hy⟩ := hc.ok 20 _ rfl rfl; exact (Option.some.inj (show some vv20 = some xx from hx)).trans hy
              have qq21 : vv21 = .int .u32 (rot a 22 : Nat) := by obtain ⟨xx, hx, hy⟩ := hc.ok 21 _ rfl rfl; exact (Option.some.inj (show some vv21 = some xx from hx)).trans hy
              have qq22 : vv22 = .int .u32 (((rot a 2) ^^^ (rot a 13)) ^^^ (rot a 22) : Nat) := by obtain ⟨xx, hx, hy⟩ := hc.ok 22 _ rfl rfl; exact (Option.some.inj (show some vv22 = some xx from hx)).trans hy
              have qq23 : vv23 = .int .u32 (((((rot a 2) ^^^ (rot a 13)) ^^^ (rot a 22)) + ((((a) &&& (b)) ||| ((a) &&& (c))) ||| ((b) &&& (c)))) % 4294967296 : Nat) := by obtain ⟨xx, hx, hy⟩ := hc.ok 23 _ rfl rfl; exact (Option.some.inj (show some vv23 = some xx from hx)).trans hy
              have BZ := hc.bel
              clear hc
              subst qq0 qq1 qq2 qq3 qq4 qq5 qq6 qq7 qq8 qq9 qq10 qq11 qq12 qq13 qq14 qq15 qq16 qq17 qq18 qq19 qq20 qq21 qq22 qq23
              simp only [List.map_cons, List.map_nil, over, Act.put, List.setIfInBounds_toArray, List.set_cons_zero, List.set_cons_succ]
              refine assign_one (i := 24) _ 17 _ _ _ (.int .u32 (((((rot a 2) ^^^ (rot a 13)) ^^^ (rot a 22)) + ((((a) &&& (b)) ||| ((a) &&& (c))) ||| ((b) &&& (c)))) % 4294967296 : Nat)) (by kernel_rfl) (by rfl) (by rfl) (BZ) ?_
              try simp only [Act.put, List.setIfInBounds_toArray, List.set_cons_zero, List.set_cons_succ]
              refine wpAnyH_done (by kernel_rfl) ?_ _
              refine NoPanic.normal ?_
              have C1 := cell_on BZ C1
              have C2 := cell_on BZ C2
              have C3 := cell_on BZ C3
              have C5 := cell_on BZ C5
              have C6 := cell_on BZ C6
              have M12 := Lib.hid (M12.out.on BZ)
              have M7 := Lib.hid (M7.out.on BZ)
              have M3 := Lib.hid (M3.out.on BZ)
              have M6 := Lib.hid (M6.out.on BZ)
              have MK := Lib.hid (MK.out.on BZ)
              have MB := Lib.hid (bel_tr MB.out BZ)
              obtain ⟨u, hu⟩ : ∃ u, St.u ⟨a, b, c, d, e, f, g, h⟩ = u := ⟨_, rfl⟩
              have hu' : ((((rot a 2) ^^^ (rot a 13)) ^^^ (rot a 22)) + ((((a) &&& (b)) ||| ((a) &&& (c))) ||| ((b) &&& (c)))) % 4294967296 = u := by rw [← hu, St.u, maj, t3]
              rw [hu']
              have HU := Lib.hid hu
              clear BZ hu hu' oa ob ob' oc od oe of og oh L12
              have XL : Hid (([.int .u32 (((t : Int) + (u : Int)) % 4294967296), .int .u32 (a : Nat), .int .u32 (b : Nat), .int .u32 (c : Nat), .int .u32 (((d : Int) + (t : Int)) % 4294967296), .int .u32 (e : Nat), .int .u32 (f : Nat), .int .u32 (g : Nat)] : List Value) = hs (St.rnd ⟨a, b, c, d, e, f, g, h⟩ kk ww).list) := Lib.hid (by
                simp only [hs, St.list, St.rnd, HT.out, HU.out, List.map_cons, List.map_nil, Int.natCast_emod, Int.natCast_add]; rfl)
              go_wp2_with (refine law_store (ty := 63) g12 0 63 (hs (St.list ⟨a, b, c, d, e, f, g, h⟩)).toArray [.int .u32 (((t : Int) + (u : Int)) % 4294967296), .int .u32 (a : Nat), .int .u32 (b : Nat), .int .u32 (c : Nat), .int .u32 (((d : Int) + (t : Int)) % 4294967296), .int .u32 (e : Nat), .int .u32 (f : Nat), .int .u32 (g : Nat)] rfl rfl M12.out (by rw [List.size_toArray, hs_len]; exact Nat.le_refl 8) size_w8 (by rw [XL.out]; exact hs_one _) ?_; intro w10 P10; have H10 := Lib.hid P10; clear P10)
              go_roundw
              case rel =>
                have G10 := H10.out.grown
                have A10 : At w10 g12 63 (hs (St.rnd ⟨a, b, c, d, e, f, g, h⟩ kk ww).list).toArray := by
                  have h := H10.out.at_
                  rw [put_all _ _ (by rw [hs_len]; rfl), XL.out] at h
                  exact h
                exact ⟨i + 1, St.rnd ⟨a, b, c, d, e, f, g, h⟩ kk ww, by omega, NX.out.symm, by go_num, A10, M7.out.grown G10 (by simpa using D712), M3.out.grown G10 (by simpa using D312), M6.out.grown G10 (by simpa using D612), MK.out.grown G10 (by simpa using Dk12), MB.out.grown G10 (by have := MB.out.size; omega) (by simp; omega)⟩
              case measure => simp [intOf]; omega
            · obtain rfl : i = 64 := by omega
              have hlt2 : ¬ ((64 : Nat) : Int) < 64 := by omega
              have FIN : Hid (comp s B = St.add ⟨a, b, c, d, e, f, g, h⟩ s) := Lib.hid (by rw [comp, ← HSC.out, ← QS.out, St.add_comm])
              obtain ⟨st, hstt⟩ : ∃ st : St, (⟨a, b, c, d, e, f, g, h⟩ : St) = st := ⟨_, rfl⟩
              rw [hstt] at P12 FIN
              have MZ : Hid (mix st.list s.list 0 = st.list) := Lib.hid (mix_zero st s.list)
              have MA : Hid (mix st.list s.list 8 = (comp s B).list) := Lib.hid (by rw [FIN.out, ← mix_all])
              have SL : Hid (s.list.length = 8) := Lib.hid rfl
              have M12 := Lib.hid P12
              have M3 := Lib.hid P3
              have M6 := Lib.hid P6
              have MB := Lib.hid PB
              clear P12 P7 P3 P6 PK PB QS hlt hi hstt FIN HWL
              go_wp2
              clear hlt2
              go_loopw [18] (fun s' wr => ∃ i : Nat, i ≤ 8 ∧ s' = .int .i64 i ∧ At wr g12 63 (hs (mix st.list s.list i)).toArray ∧ At wr g3 63 xs.toArray ∧ At wr g6 63 zs.toArray ∧ Below w.heap.size w wr) (fun s' _ => 8 - (intOf s').toNat)
              case atStart => exact ⟨0, by omega, rfl, by rw [MZ.out]; exact M12.out, M3.out, M6.out, MB.out⟩
              case round =>
                obtain ⟨i, hi, rfl, P12, P3, P6, PB⟩ := hrel
                clear M12 M3 M6 MB MZ
                by_cases hlt : i < 8
                · have hlt' : (i : Int) < 8 := by omega
                  have FP := P12.word i (by rw [mix_len]; exact hlt)
                  rw [mix_at _ _ _ hlt] at FP
                  have FQ : wr.cell? ⟨g3, i, none⟩ = some (.int .u32 (s.list.getD i 0 : Nat)) := by rw [P3.cell, List.getElem?_toArray, ← HXS.out]; exact hs_at _ i (by rw [SL.out]; exact hlt)
                  have OLD := FP
                  have L12 := P12.lt
                  have L3 := P3.lt
                  have MS := Lib.hid (mix_set st.list s.list i hlt)
                  generalize st.list.getD i 0 = p at *
                  generalize s.list.getD i 0 = q at *
                  have Q12 := Lib.hid P12
                  have Q3 := Lib.hid P3
                  have Q6 := Lib.hid P6
                  have QB := Lib.hid PB
                  have FRZ : ∀ w', Below wr.heap.size wr w' → w'.frozen? ⟨g12, i, none⟩ = false := fun w' hb => (Q12.out.on hb).frozen _
                  have LG := L12
                  clear P12 P3 P6 PB
                  go_wp2
                  try simp only [List.append_eq, List.cons_append, List.nil_append]
                  refine wp_region_noPanic ?_
                  refine wp_region_held_drew (S := fun w' => Same wr ⟨g12, i, none⟩ w') (by kernel_rfl) (Same.drew _ _) (fun _ => ?_)
                  refine wpAnyH_cores (fuel := 1) (⟨0, 185, [], Kind.val (.int .i64 (i : Nat)), true⟩ :: ⟨1, 186, [0], Kind.val (.int .i64 (i : Nat)), true⟩ :: ⟨2, 187, [1], Kind.val (.pointer (some ⟨g12, i, none⟩)), true⟩ :: ⟨4, 189, [2], Kind.val (.int .i64 (i : Nat)), true⟩ :: ⟨5, 190, [3], Kind.val (.pointer (some ⟨g3, i, none⟩)), true⟩ :: ⟨6, 191, [4], Kind.val (.int .u32 (q : Nat)), true⟩ :: ⟨3, 188, [2, 5], Kind.val (.int .u32 (p : Nat)), false⟩ :: ⟨7, 192, [5, 6], Kind.val (.int .u32 ((p + q) % 4294967296 : Nat)), true⟩ :: ⟨8, 193, [0, 1, 2, 3, 4, 5, 6, 7], Kind.val (.pointer (some ⟨g12, i, none⟩)), true⟩ :: []) _ _ wr _ ?_ ?_ ?_ ?_ ?_ ?_ ?_ ?_ ?_ ?_ ?_
                  · rfl
                  · kernel_rfl
                  · exact of_decide_eq_true (by kernel_rfl)
                  · exact all_cons ⟨_, by rfl, by rfl⟩ (all_cons ⟨_, by rfl, by rfl⟩ (all_cons ⟨_, by rfl, by rfl⟩ (all_cons ⟨_, by rfl, by rfl⟩ (all_cons ⟨_, by rfl, by rfl⟩ (all_cons ⟨_, by rfl, by rfl⟩ (all_cons ⟨_, by rfl, by rfl⟩ (all_cons ⟨_, by rfl, by rfl⟩ (all_cons ⟨_, by rfl, by rfl⟩ (all_nil)))))))))
                  · exact fun _ hb => Same.of hb
                  · exact (Below.refl _ _).drew
                  · kernel_rfl
                  · exact fun _ _ _ _ _ h => h
                  · refine all_cons ?_ (all_cons ?_ (all_cons ?_ (all_cons ?_ (all_cons ?_ (all_cons ?_ (all_cons ?_ (all_cons ?_ (all_cons ?_ (all_nil)))))))))
                    · exact core_move _ _ _ _ _ _ (by rfl) (by rfl) (known_old 18 _ (of_decide_eq_true (by rfl)) (by rfl))
                    · exact core_move _ _ _ _ _ _ (by rfl) (by rfl) (known_old 18 _ (of_decide_eq_true (by rfl)) (by rfl))
                    · exact core_held2C _ _ _ _ _ _ _ _ _ _ (by rfl) (by rfl) (known_old 12 _ (of_decide_eq_true (by rfl)) (by rfl)) (known_core 1 186 _ _ (of_decide_eq_true (by rfl)) (by rfl) (by rfl) (by rfl)) (fun ρ w kx ky hs => at8 g12 (i) (by omega) kx ky)
                    · exact core_move _ _ _ _ _ _ (by rfl) (by rfl) (known_old 18 _ (of_decide_eq_true (by rfl)) (by rfl))
                    · exact core_held2C _ _ _ _ _ _ _ _ _ _ (by rfl) (by rfl) (known_old 3 _ (of_decide_eq_true (by rfl)) (by rfl)) (known_core 3 189 _ _ (of_decide_eq_true (by rfl)) (by rfl) (by rfl) (by rfl)) (fun ρ w kx ky hs => at8 g3 (i) (by omega) kx ky)
                    · exact core_heldC _ _ _ _ _ _ _ _ (by rfl) (by rfl) (known_core 4 190 _ _ (of_decide_eq_true (by rfl)) (by rfl) (by rfl) (by rfl)) (fun ρ w kx hs => load32 _ _ _ kx ((hs _ L3 (fun e => by injection e with e1 e2; exact D312 e1)).trans (FQ)))
                    · exact core_pureAs _ (by rfl)
                    · exact core_held2C _ _ _ _ _ _ _ _ _ _ (by rfl) (by rfl) (known_core 6 188 _ _ (of_decide_eq_true (by rfl)) (by rfl) (by rfl) (by rfl)) (known_core 5 191 _ _ (of_decide_eq_true (by rfl)) (by rfl) (by rfl) (by rfl)) (fun ρ w kx ky hs => add32 _ _ kx ky)
                    · exact core_held2C _ _ _ _ _ _ _ _ _ _ (by rfl) (by rfl) (known_old 12 _ (of_decide_eq_true (by rfl)) (by rfl)) (known_core 0 185 _ _ (of_decide_eq_true (by rfl)) (by rfl) (by rfl) (by rfl)) (fun ρ w kx ky hs => at8 g12 (i) (by omega) kx ky)
                  · refine all_cons ?_ (all_cons ?_ (all_cons ?_ (all_cons ?_ (all_cons ?_ (all_cons ?_ (all_cons ?_ (all_cons ?_ (all_cons ?_ (all_nil)))))))))
                    · exact core_stepAs _ (by rfl)
                    · exact core_stepAs _ (by rfl)
                    · exact core_stepAs _ (by rfl)
                    · exact core_stepAs _ (by rfl)
                    · exact core_stepAs _ (by rfl)
                    · exact core_stepAs _ (by rfl)
                    · exact fun _ => core_step _ _ _ _ _ _ _ _ (by rfl) (by rfl) (known_core 2 187 _ _ (of_decide_eq_true (by rfl)) (by rfl) (by rfl) (by rfl)) (fun ρ w kx hb => load32 _ _ _ kx ((hb.cell L12).trans (FP)))
                    · exact core_stepAs _ (by rfl)
                    · exact core_stepAs _ (by rfl)
                  intro vs y5 hc
                  obtain ⟨vv0, vv1, vv2, vv3, vv4, vv5, vv6, vv7, vv8, rfl⟩ := len9 vs hc.lv
                  have qq0 : vv0 = .int .i64 (i : Nat) := by obtain ⟨xx, hx, hy⟩ := hc.ok 0 _ rfl rfl; exact (Option.some.inj (show some vv0 = some xx from hx)).trans hy
                  have qq1 : vv1 = .int .i64 (i : Nat) := by obtain ⟨xx, hx, hy⟩ := hc.ok 1 _ rfl rfl; exact (Option.some.inj (show some vv1 = some xx from hx)).trans hy
                  have qq2 : vv2 = .pointer (some ⟨g12, i, none⟩) := by obtain ⟨xx, hx, hy⟩ := hc.ok 2 _ rfl rfl; exact (Option.some.inj (show some vv2 = some xx from hx)).trans hy
                  have qq3 : vv3 = .int .i64 (i : Nat) := by obtain ⟨xx, hx, hy⟩ := hc.ok 3 _ rfl rfl; exact (Option.some.inj (show some vv3 = some xx from hx)).trans hy
                  have qq4 : vv4 = .pointer (some ⟨g3, i, none⟩) := by obtain ⟨xx, hx, hy⟩ := hc.ok 4 _ rfl rfl; exact (Option.some.inj (show some vv4 = some xx from hx)).trans hy
                  have qq5 : vv5 = .int .u32 (q : Nat) := by obtain ⟨xx, hx, hy⟩ := hc.ok 5 _ rfl rfl; exact (Option.some.inj (show some vv5 = some xx from hx)).trans hy
                  have qq6 : vv6 = .int .u32 (p : Nat) := by obtain ⟨xx, hx, hy⟩ := hc.ok 6 _ rfl rfl; exact (Option.some.inj (show some vv6 = some xx from hx)).trans hy
                  have qq7 : vv7 = .int .u32 ((p + q) % 4294967296 : Nat) := by obtain ⟨xx, hx, hy⟩ := hc.ok 7 _ rfl rfl; exact (Option.some.inj (show some vv7 = some xx from hx)).trans hy
                  have qq8 : vv8 = .pointer (some ⟨g12, i, none⟩) := by obtain ⟨xx, hx, hy⟩ := hc.ok 8 _ rfl rfl; exact (Option.some.inj (show some vv8 = some xx from hx)).trans hy
                  have BZ := hc.bel
                  clear hc
                  subst qq0 qq1 qq2 qq3 qq4 qq5 qq6 qq7 qq8
                  simp only [List.map_cons, List.map_nil, over, Act.put, List.setIfInBounds_toArray, List.set_cons_zero, List.set_cons_succ]
                  refine store_cell (i := 9) _ _ _ _ _ _ g12 i (.int .u32 ((p + q) % 4294967296 : Nat)) (by kernel_rfl) (by rfl) (by rfl) (by rfl) (fun ρ kx ky => store32 _ _ _ _ kx ky (cell_on BZ OLD) (FRZ _ BZ)) (Same.set (Same.of BZ) _) ?_
                  refine wpAnyH_done (by kernel_rfl) ?_ _
                  refine NoPanic.normal ?_
                  have M12 := Lib.hid (Q12.out.on BZ)
                  have M3 := Lib.hid (Q3.out.on BZ)
                  have M6 := Lib.hid (Q6.out.on BZ)
                  have MB := Lib.hid (bel_tr QB.out BZ)
                  clear BZ FP FQ OLD FRZ Q12 Q3 Q6 QB
                  obtain ⟨v, hv⟩ : ∃ v, (p + q) % 4294967296 = v := ⟨_, rfl⟩
                  rw [hv] at MS ⊢
                  clear hv
                  go_wp2
                  go_roundw
                  case rel =>
                    refine ⟨i + 1, by omega, by go_num, ?_, M3.out.far (p := ⟨g12, i, none⟩) (fun e => D312 e.symm) _, M6.out.far (p := ⟨g12, i, none⟩) (fun e => D612 e.symm) _, MB.out.setCell E12 _⟩
                    have h := M12.out.set i (.int .u32 (v : Nat))
                    rw [List.setIfInBounds_toArray, hs_set, MS.out] at h
                    exact h
                  case measure => simp [intOf]; omega
                · obtain rfl : i = 8 := by omega
                  have hlt' : ¬ ((8 : Nat) : Int) < 8 := by omega
                  rw [MA.out] at P12
                  have ho : Hid (∀ u ∈ hs (comp s B).list, u.oneCell' = true) := Lib.hid (hs_one _)
                  have hL : Hid ((hs (comp s B).list).length = 8) := Lib.hid (by simp [hs_len, St.list])
                  obtain ⟨ys, hys⟩ : ∃ ys, hs (comp s B).list = ys := ⟨_, rfl⟩
                  have HYS := Lib.hid hys
                  rw [hys] at P12 hL ho
                  have Q12 := Lib.hid P12
                  have Q6 := Lib.hid P6
                  have QB := Lib.hid PB
                  clear P12 P3 P6 PB hys hi hlt
                  go_wp2_with (first | (refine law_load (ty := 63) g12 0 ys _ rfl Q12.out.all under_w8 rfl (by rw [size_w8, hL.out]) ?_) | (refine law_store (ty := 63) g6 0 63 zs.toArray ys rfl rfl Q6.out (by rw [List.size_toArray, hL.out, ZS.out]; omega) (by rw [size_w8, hL.out]) ho.out ?_; intro w11 P11; have H11 := Lib.hid P11; clear P11))
                  have L11 := H11.out.at_
                  rw [put_all _ _ (by rw [hL.out, ZS.out])] at L11
                  refine ret_cell (ty := 63) rfl g6 _ ys _ rfl L11 under_w8 rfl (by rw [size_w8, hL.out]) rfl ⟨by rw [HYS.out], QB.out.grown H11.out.grown (by have := QB.out.size; omega) (by simp; omega)⟩
end Go.Proofs.YtkmjfaaelkmnkaaDoor
