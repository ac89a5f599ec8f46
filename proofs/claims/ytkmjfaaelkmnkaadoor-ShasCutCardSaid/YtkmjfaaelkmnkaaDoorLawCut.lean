/-
  ShasCut: wherever bytes are parted, their hash is the same; asked for in between it is that of the first part, and disturbs nothing.
-/
import Derived.Test.YtkmjfaaelkmnkaaDoorGuard
import Derived.Test.YtkmjfaaelkmnkaaDoorAlive
namespace Go.Proofs.YtkmjfaaelkmnkaaDoor
open Go.RowKit
set_option linter.unusedSimpArgs false
set_option linter.unusedVariables false

section
variable {dst : Option Tmp} {ty : TypeId} {pos : String} {after : Array Edge} {gd : Option (Nat × Bool)} {x y : Operand} {ρ : Operand → Value} {w : World}
theorem sliceTo (A : Option Addr) (n : Nat) (w : World) (c k : Nat) (hk : k ≤ c) (hc : c ≤ 9223372036854775807) (hx : ρ x = .slice A n c) (hy : ρ y = .int .i64 (k : Nat)) :
    (execOp ρ ⟨dst, .slice 22 x none (some y) none, ty, pos, after, gd⟩).run Tryd.prog w = .ok (.value (.slice A k c)) w := by
  have h1 : (k : Int) ≤ (c : Int) := by omega
  have h2 : ¬ (c : Int) < (k : Int) := by omega
  simp [execOp, hx, hy, go_sem, h1, h2]
end
set_option maxRecDepth 100000 in
set_option maxHeartbeats 4000000 in
theorem cut_walk (A : Option Addr) (n c x : Nat) (l : List Nat) (w : World) (hnc : n ≤ c) (hcm : c ≤ 9223372036854775807) (hnil : A = none → n = 0 ∧ c = 0) (hr : Rd w A n (bs l)) (hb : ∀ y ∈ l, y < 256) (hx : x < 65536) (T : Tabs w) :
    Calls Tryd.prog 3 #[.slice A n c, .int .u16 x] w fun e w' => e = .returned (.bool true) ∧ Below w.heap.size w w' := by
  have HR := Lib.hid hr
  have HT := Lib.hid T
  have HB := Lib.hid hb
  have HN := Lib.hid hnil
  have hln : l.length = n := by have := hr.1; rwa [bs_len] at this
  clear hr T hb hnil
  by_cases h20 : n ≤ 20000
  · have h20' : ¬ (20000 : Int) < (n : Int) := by omega
    obtain ⟨k, hk⟩ : ∃ k, x % (n + 1) = k := ⟨_, rfl⟩
    have hkn : k ≤ n := by have := Nat.mod_lt x (show 0 < n + 1 by omega); omega
    have hkz : Int.tmod (x : Int) ((n : Int) + 1) = (k : Int) := by rw [← hk]; exact (by rw [show ((n : Int) + 1) = ((n + 1 : Nat) : Int) by simp]; exact (Int.ofNat_tmod _ _).symm)
    go_enter Tryd.func3, Tryd.ntmps3
    go_wp2_with fail
    refine (alive_ok w HT.out).mono ?_
    rintro e w0 ⟨rfl, b0⟩
    have T0 := Lib.hid (HT.out.on b0)
    have B0 := Lib.hid b0
    clear b0
    go_wp2_with fail
    refine (new_ok w0 T0.out).mono ?_
    rintro e w1 ⟨rfl, s1, b1⟩
    have T1 := Lib.hid (T0.out.on b1)
    have B1 := Lib.hid (bel_tr B0.out b1)
    have hs1 := T0.out.lt1
    have hs2 := B0.out.size
    obtain ⟨g, hg⟩ : ∃ x, w0.heap.size = x := ⟨_, rfl⟩
    rw [hg] at s1 hs1 hs2 ⊢
    have S1 := Lib.hid s1
    have hgl := s1.lt
    clear s1 b1 hg T0 B0
    have H2 := Lib.hid (hash_ok g [] w1 S1.out T1.out (by simp))
    go_wp2_with fail
    refine H2.out.mono ?_
    rintro e w2 ⟨rfl, b2⟩
    have T2 := Lib.hid (T1.out.on b2)
    have B2 := Lib.hid (bel_tr B1.out b2)
    have S2 := Lib.hid (S1.out.on b2)
    have HL0 := Lib.hid (sha_len [])
    obtain ⟨h0, hh0⟩ : ∃ x, sha [] = x := ⟨_, rfl⟩
    rw [hh0] at HL0 ⊢
    have HH0 := Lib.hid hh0
    clear H2 b2 hh0 T1 B1 S1
    go_wp2_with (refine law_alloc (d := 7) (ty := 28) _ zero_hash ?_; intro z1 N3; have H3 := Lib.hid N3; clear N3; refine law_store (ty := 28) w2.heap.size 0 _ (bs (List.replicate 32 0)).toArray (bs h0) rfl rfl H3.out.at_ (by simp [bs, HL0.out]) (by rw [size_hash, bs_len, HL0.out]) (bs_one _) ?_; intro w3 P4; have H4 := Lib.hid P4; clear P4)
    have b3 := H3.out.put H4.out
    have C7 := Lib.hid (Put.hash h0 HL0.out H4.out)
    have T3 := Lib.hid (T2.out.on b3)
    have B3 := Lib.hid (bel_tr B2.out b3)
    have S3 := Lib.hid (S2.out.on b3)
    have L7 : Hid (w.heap.size ≤ w2.heap.size) := Lib.hid B2.out.size
    obtain ⟨g7, hg7⟩ : ∃ x, w2.heap.size = x := ⟨_, rfl⟩
    rw [hg7] at C7 L7 ⊢
    have S2l : Hid (g < g7) := Lib.hid (by have := S2.out.lt; omega)
    clear H3 H4 b3 T2 B2 S2 hg7
    have R3 := Lib.hid (HR.out.below B3.out)
    have R3k := Lib.hid (R3.out.take hkn)
    have hfar : ∀ b o, A = some ⟨b, o, none⟩ → 0 < n → b < w.heap.size := fun b o e hp => by
      obtain ⟨b', o', e', hb', _⟩ := HR.out.2 hp
      rw [e] at e'
      injection e' with e'
      injection e' with e1 _
      omega
    have HF := Lib.hid hfar
    have hrk : bs (l.take k) = (bs l).take k := by simp [bs]
    have hwl : w.heap.size ≤ g := hs2
    have W4 := Lib.hid (write_any g A k c [] (l.take k) w3 S3.out (by rw [hrk]; exact R3k.out) (by omega) hcm (fun b o e hp => by have := hfar b o e (by omega); omega) (fun y hy => HB.out y (List.mem_of_mem_take hy)) T3.out (by omega) (by omega) (by simp; omega))
    clear hfar hrk R3k R3
    go_wp2_with fail
    refine W4.out.mono ?_
    rintro e w4 ⟨rfl, s4, g4⟩
    rw [List.nil_append] at s4
    have h7g : g7 ≠ g := by have := S2l.out; omega
    have S4 := Lib.hid s4
    have T4 := Lib.hid (T3.out.grown g4 (by omega) (by omega))
    have B4 : Hid (Below w.heap.size w w4) := Lib.hid (B3.out.grown g4 B3.out.size (by simp; omega))
    have D7 := Lib.hid (C7.out.grown g4 (by simpa using h7g))
    have HLk := Lib.hid (sha_len (l.take k))
    have H5 := Lib.hid (hash_ok g (l.take k) w4 S4.out T4.out (by rw [List.length_take]; omega))
    obtain ⟨hk', hhk⟩ : ∃ x, sha (l.take k) = x := ⟨_, rfl⟩
    rw [hhk] at HLk H5
    have HHK := Lib.hid hhk
    clear hhk s4 g4 W4 T3 B3 C7 S3 S2l
    go_wp2_with fail
    refine H5.out.mono ?_
    rintro e w5 ⟨rfl, b5⟩
    have S5 := Lib.hid (S4.out.on b5)
    have T5 := Lib.hid (T4.out.on b5)
    have B5 := Lib.hid (bel_tr B4.out b5)
    have E7 := Lib.hid (D7.out.on b5)
    clear H5 S4 T4 B4 D7 b5
    go_wp2_with (refine law_alloc (d := 8) (ty := 28) _ zero_hash ?_; intro z1 N3; have H3 := Lib.hid N3; clear N3; refine law_store (ty := 28) w5.heap.size 0 _ (bs (List.replicate 32 0)).toArray (bs hk') rfl rfl H3.out.at_ (by simp [bs, HLk.out]) (by rw [size_hash, bs_len, HLk.out]) (bs_one _) ?_; intro w6 P4; have H4 := Lib.hid P4; clear P4)
    have b6 := H3.out.put H4.out
    have C8 := Lib.hid (Put.hash hk' HLk.out H4.out)
    have C7 := Lib.hid (E7.out.on b6)
    have T6 := Lib.hid (T5.out.on b6)
    have B6 := Lib.hid (bel_tr B5.out b6)
    have S6 := Lib.hid (S5.out.on b6)
    have L8 : Hid (g < w5.heap.size) := Lib.hid S5.out.lt
    obtain ⟨g8, hg8⟩ : ∃ x, w5.heap.size = x := ⟨_, rfl⟩
    rw [hg8] at C8 L8 ⊢
    have H7 := Lib.hid (hash_ok g (l.take k) w6 S6.out T6.out (by rw [List.length_take]; omega))
    rw [HHK.out] at H7
    clear H3 H4 b6 T5 B5 S5 hg8 E7
    go_wp2_with fail
    refine H7.out.mono ?_
    rintro e w7 ⟨rfl, b7⟩
    have S7 := Lib.hid (S6.out.on b7)
    have T7 := Lib.hid (T6.out.on b7)
    have B7 := Lib.hid (bel_tr B6.out b7)
    have E7 := Lib.hid (C7.out.on b7)
    have E8 := Lib.hid (C8.out.on b7)
    clear H7 S6 T6 B6 C7 C8 b7
    go_wp2_with (refine law_alloc (d := 9) (ty := 28) _ zero_hash ?_; intro z1 N3; have H3 := Lib.hid N3; clear N3; refine law_store (ty := 28) w7.heap.size 0 _ (bs (List.replicate 32 0)).toArray (bs hk') rfl rfl H3.out.at_ (by simp [bs, HLk.out]) (by rw [size_hash, bs_len, HLk.out]) (bs_one _) ?_; intro w8 P4; have H4 := Lib.hid P4; clear P4)
    have b8 := H3.out.put H4.out
    have C9 := Lib.hid (Put.hash hk' HLk.out H4.out)
    have C7 := Lib.hid (E7.out.on b8)
    have C8 := Lib.hid (E8.out.on b8)
    have T8 := Lib.hid (T7.out.on b8)
    have B8 := Lib.hid (bel_tr B7.out b8)
    have S8 := Lib.hid (S7.out.on b8)
    have L9 : Hid (g < w7.heap.size) := Lib.hid S7.out.lt
    obtain ⟨g9, hg9⟩ : ∃ x, w7.heap.size = x := ⟨_, rfl⟩
    rw [hg9] at C9 L9 ⊢
    have W9 := Lib.hid (write_any g none 0 0 (l.take k) [] w8 S8.out (Rd.nil _ _) (Nat.le_refl _) (by omega) (fun b o e => by cases e) (by simp) T8.out (by omega) (by omega) (by rw [List.length_take]; omega))
    clear H3 H4 b8 T7 B7 S7 hg9 E7 E8
    have h8g : g8 ≠ g := by have := L8.out; omega
    have h9g : g9 ≠ g := by have := L9.out; omega
    go_wp2_with fail
    refine W9.out.mono ?_
    rintro e w9 ⟨rfl, s9, g9'⟩
    rw [List.append_nil] at s9
    have S9 := Lib.hid s9
    have T9 := Lib.hid (T8.out.grown g9' (by omega) (by omega))
    have B9 : Hid (Below w.heap.size w w9) := Lib.hid (B8.out.grown g9' B8.out.size (by simp; omega))
    have E7 := Lib.hid (C7.out.grown g9' (by simpa using h7g))
    have E8 := Lib.hid (C8.out.grown g9' (by simpa using h8g))
    have E9 := Lib.hid (C9.out.grown g9' (by simpa using h9g))
    clear W9 s9 g9' S8 T8 B8 C7 C8 C9
    rcases Nat.lt_or_ge k n with hkn2 | hkn2
    · obtain ⟨b, o, rfl, hbl, _⟩ := HR.out.spot hkn2
      have hkc : k < c := by omega
      go_wp2_with fail
      refine (write_any g _ (n - k) (c - k) (l.take k) (l.drop k) w9 S9.out (by have := (HR.out.below B9.out).later hkn2; rwa [show (bs l).drop k = bs (l.drop k) by simp [bs]] at this) (by omega) (by omega) (fun b' o' e _ => by injection e with e; injection e with e1 _; omega) (fun y hy => HB.out y (List.mem_of_mem_drop hy)) T9.out (by omega) (by omega) (by rw [List.length_take]; omega)).mono ?_
      rintro e w10 ⟨rfl, s10, g10⟩
      replace s10 : SumAt w10 g l := by first | (rw [List.append_nil, List.take_of_length_le (by omega)] at s10; exact s10) | (rw [List.take_append_drop] at s10; exact s10)
      have S10 := Lib.hid s10
      have T10 := Lib.hid (T9.out.grown g10 (by omega) (by omega))
      have B10 : Hid (Below w.heap.size w w10) := Lib.hid (B9.out.grown g10 B9.out.size (by simp; omega))
      replace E7 := Lib.hid (E7.out.grown g10 (by simpa using h7g))
      replace E8 := Lib.hid (E8.out.grown g10 (by simpa using h8g))
      replace E9 := Lib.hid (E9.out.grown g10 (by simpa using h9g))
      have R10 := Lib.hid (HR.out.below B10.out)
      have HLz := Lib.hid (sha_len l)
      have C1 : Hid (∀ u, Below w10.heap.size w10 u → Calls Tryd.prog 12 #[.slice none 0 0] u fun e w' => e = .returned (.agg (bs h0).toArray) ∧ Below u.heap.size u w') := Lib.hid (fun u hb => by rw [← HH0.out]; exact of_ok none 0 0 [] u (Rd.nil _ _) (Nat.le_refl _) (by omega) (by simp) (T10.out.on hb) (by omega))
      have C2 : Hid (∀ u, Below w10.heap.size w10 u → Calls Tryd.prog 12 #[.slice (some ⟨b, o, none⟩) k c] u fun e w' => e = .returned (.agg (bs hk').toArray) ∧ Below u.heap.size u w') := Lib.hid (fun u hb => by rw [← HHK.out]; exact of_ok _ k c (l.take k) u (by have := (R10.out.below hb).take hkn; rwa [show (bs l).take k = bs (l.take k) by simp [bs]] at this) (by omega) hcm (fun y hy => HB.out y (List.mem_of_mem_take hy)) (T10.out.on hb) (by omega))
      have C3 : Hid (∀ u, Below w10.heap.size w10 u → Calls Tryd.prog 10 #[.pointer (some ⟨g, 0, none⟩)] u fun e w' => e = .returned (.agg (bs (sha l)).toArray) ∧ Below u.heap.size u w') := Lib.hid (fun u hb => hash_ok g l u (S10.out.on hb) (T10.out.on hb) (by omega))
      have C4 : Hid (∀ u, Below w10.heap.size w10 u → Calls Tryd.prog 12 #[.slice (some ⟨b, o, none⟩) n c] u fun e w' => e = .returned (.agg (bs (sha l)).toArray) ∧ Below u.heap.size u w') := Lib.hid (fun u hb => of_ok _ n c l u (R10.out.below hb) hnc hcm HB.out (T10.out.on hb) (by omega))
      obtain ⟨hz, hhz⟩ : ∃ x, sha l = x := ⟨_, rfl⟩
      rw [hhz] at HLz C3 C4
      clear hhz s10 g10 S9 T9 B9 S10 T10 R10 HR HB HN HF HT HH0 HHK hk hkz
      go_wp2_with fail
      try simp only [List.append_eq, List.cons_append, List.nil_append]
      refine wp_region_noPanic ?_
      refine wp_region_held_drew (S := fun w' => Below w10.heap.size w10 w') (by kernel_rfl) ((Below.refl _ _).drew) (fun _ => ?_)
      refine wpAnyH_cores (fuel := 1) (⟨0, 43, [], Kind.val (.agg (bs h0).toArray), true⟩ :: ⟨1, 44, [0], Kind.val (.agg (bs h0).toArray), false⟩ :: ⟨2, 45, [0, 1], Kind.val (.bool true), true⟩ :: ⟨3, 46, [2], Kind.val (.bool true), true⟩ :: ⟨4, 47, [3], Kind.val (.agg (bs hk').toArray), true⟩ :: ⟨5, 48, [3, 4], Kind.val (.slice (some ⟨b, o, none⟩) n c), true⟩ :: ⟨6, 49, [3, 5], Kind.val (.int .i64 (k : Nat)), true⟩ :: ⟨7, 50, [3, 5, 6], Kind.val (.slice (some ⟨b, o, none⟩) k c), true⟩ :: ⟨8, 51, [3, 7], Kind.val (.agg (bs hk').toArray), false⟩ :: ⟨9, 52, [3, 4, 8], Kind.val (.bool true), true⟩ :: ⟨10, 53, [3, 9], Kind.val (.bool true), true⟩ :: ⟨11, 54, [10], Kind.val (.bool true), true⟩ :: ⟨12, 55, [11], Kind.val (.agg (bs hk').toArray), true⟩ :: ⟨13, 56, [11, 12], Kind.val (.agg (bs hk').toArray), true⟩ :: ⟨14, 57, [11, 12, 13], Kind.val (.bool true), true⟩ :: ⟨15, 58, [11, 14], Kind.val (.bool true), true⟩ :: ⟨16, 59, [15], Kind.val (.bool true), true⟩ :: ⟨17, 60, [16], Kind.val (.pointer (some ⟨g, 0, none⟩)), true⟩ :: ⟨19, 62, [16, 17], Kind.val (.slice (some ⟨b, o, none⟩) n c), true⟩ :: ⟨18, 61, [16, 17, 18], Kind.val (.agg (bs hz).toArray), false⟩ :: ⟨20, 63, [16, 18, 19], Kind.val (.agg (bs hz).toArray), false⟩ :: ⟨21, 64, [16, 19, 20], Kind.val (.bool true), true⟩ :: ⟨22, 65, [16, 21], Kind.val (.bool true), true⟩ :: []) _ _ w10 _ ?_ ?_ ?_ ?_ ?_ ?_ ?_ ?_ ?_ ?_ ?_
      · rfl
      · kernel_rfl
      · exact of_decide_eq_true (by kernel_rfl)
      · exact all_cons ⟨_, by rfl, by rfl⟩ (all_cons ⟨_, by rfl, by rfl⟩ (all_cons ⟨_, by rfl, by rfl⟩ (all_cons ⟨_, by rfl, by rfl⟩ (all_cons ⟨_, by rfl, by rfl⟩ (all_cons ⟨_, by rfl, by rfl⟩ (all_cons ⟨_, by rfl, by rfl⟩ (all_cons ⟨_, by rfl, by rfl⟩ (all_cons ⟨_, by rfl, by rfl⟩ (all_cons ⟨_, by rfl, by rfl⟩ (all_cons ⟨_, by rfl, by rfl⟩ (all_cons ⟨_, by rfl, by rfl⟩ (all_cons ⟨_, by rfl, by rfl⟩ (all_cons ⟨_, by rfl, by rfl⟩ (all_cons ⟨_, by rfl, by rfl⟩ (all_cons ⟨_, by rfl, by rfl⟩ (all_cons ⟨_, by rfl, by rfl⟩ (all_cons ⟨_, by rfl, by rfl⟩ (all_cons ⟨_, by rfl, by rfl⟩ (all_cons ⟨_, by rfl, by rfl⟩ (all_cons ⟨_, by rfl, by rfl⟩ (all_cons ⟨_, by rfl, by rfl⟩ (all_cons ⟨_, by rfl, by rfl⟩ (all_nil)))))))))))))))))))))))
      · exact fun _ hb => hb
      · exact (Below.refl _ _).drew
      · kernel_rfl
      · exact fun _ _ _ _ _ h => h
      · refine all_cons ?_ (all_cons ?_ (all_cons ?_ (all_cons ?_ (all_cons ?_ (all_cons ?_ (all_cons ?_ (all_cons ?_ (all_cons ?_ (all_cons ?_ (all_cons ?_ (all_cons ?_ (all_cons ?_ (all_cons ?_ (all_cons ?_ (all_cons ?_ (all_cons ?_ (all_cons ?_ (all_cons ?_ (all_cons ?_ (all_cons ?_ (all_cons ?_ (all_cons ?_ (all_nil)))))))))))))))))))))))
        · exact coreG_held _ _ _ _ _ _ _ _ _ (by rfl) (by rfl) (wants_none) (known_old 7 _ (of_decide_eq_true (by rfl)) (by rfl)) (fun ρ w hx hS => loadH_run h0 HL0.out g7 _ _ _ _ _ _ ρ w hx (E7.out.on hS))
        · exact core_pureAs _ (by rfl)
        · exact coreG_bin _ _ _ _ _ _ _ _ _ _ _ _ _ (by rfl) (by rfl) (wants_none) (known_core 0 43 _ _ (of_decide_eq_true (by rfl)) (by rfl) (by rfl) (by rfl)) (known_core 1 44 _ _ (of_decide_eq_true (by rfl)) (by rfl) (by rfl) (by rfl)) (fun ρ w hx hy => eqlH_run h0 HL0.out _ _ _ _ _ _ _ ρ w hx hy)
        · exact coreG_move _ _ _ _ _ _ _ (by rfl) (by rfl) (wants_none) (known_core 2 45 _ _ (of_decide_eq_true (by rfl)) (by rfl) (by rfl) (by rfl))
        · exact coreG_held _ _ _ _ _ _ _ _ _ (by rfl) (by rfl) (wants_core 3 46 3 _ _ _ (by rfl) (by rfl) (by rfl) (known_core 3 46 _ _ (of_decide_eq_true (by rfl)) (by rfl) (by rfl) (by rfl)) _ (by rfl)) (known_old 8 _ (of_decide_eq_true (by rfl)) (by rfl)) (fun ρ w hx hS => loadH_run hk' HLk.out g8 _ _ _ _ _ _ ρ w hx (E8.out.on hS))
        · exact coreG_move _ _ _ _ _ _ _ (by rfl) (by rfl) (wants_core 3 46 3 _ _ _ (by rfl) (by rfl) (by rfl) (known_core 3 46 _ _ (of_decide_eq_true (by rfl)) (by rfl) (by rfl) (by rfl)) _ (by rfl)) (known_old 0 _ (of_decide_eq_true (by rfl)) (by rfl))
        · exact coreG_move _ _ _ _ _ _ _ (by rfl) (by rfl) (wants_core 3 46 3 _ _ _ (by rfl) (by rfl) (by rfl) (known_core 3 46 _ _ (of_decide_eq_true (by rfl)) (by rfl) (by rfl) (by rfl)) _ (by rfl)) (known_old 5 _ (of_decide_eq_true (by rfl)) (by rfl))
        · exact coreG_held2 _ _ _ _ _ _ _ _ _ _ _ (by rfl) (by rfl) (wants_core 3 46 3 _ _ _ (by rfl) (by rfl) (by rfl) (known_core 3 46 _ _ (of_decide_eq_true (by rfl)) (by rfl) (by rfl) (by rfl)) _ (by rfl)) (known_core 5 48 _ _ (of_decide_eq_true (by rfl)) (by rfl) (by rfl) (by rfl)) (known_core 6 49 _ _ (of_decide_eq_true (by rfl)) (by rfl) (by rfl) (by rfl)) (fun ρ w hx hy _ => sliceTo _ _ _ c k (by omega) hcm hx hy)
        · exact core_pureAs _ (by rfl)
        · exact coreG_bin _ _ _ _ _ _ _ _ _ _ _ _ _ (by rfl) (by rfl) (wants_core 3 46 3 _ _ _ (by rfl) (by rfl) (by rfl) (known_core 3 46 _ _ (of_decide_eq_true (by rfl)) (by rfl) (by rfl) (by rfl)) _ (by rfl)) (known_core 4 47 _ _ (of_decide_eq_true (by rfl)) (by rfl) (by rfl) (by rfl)) (known_core 8 51 _ _ (of_decide_eq_true (by rfl)) (by rfl) (by rfl) (by rfl)) (fun ρ w hx hy => eqlH_run hk' HLk.out _ _ _ _ _ _ _ ρ w hx hy)
        · exact coreG_pick _ _ _ _ _ _ _ _ _ _ _ _ (by rfl) (by rfl) (wants_none) (known_core 3 46 _ _ (of_decide_eq_true (by rfl)) (by rfl) (by rfl) (by rfl)) (known_core 9 52 _ _ (of_decide_eq_true (by rfl)) (by rfl) (by rfl) (by rfl)) (known_const _) (by rfl)
        · exact coreG_move _ _ _ _ _ _ _ (by rfl) (by rfl) (wants_none) (known_core 10 53 _ _ (of_decide_eq_true (by rfl)) (by rfl) (by rfl) (by rfl))
        · exact coreG_held _ _ _ _ _ _ _ _ _ (by rfl) (by rfl) (wants_core 11 54 11 _ _ _ (by rfl) (by rfl) (by rfl) (known_core 11 54 _ _ (of_decide_eq_true (by rfl)) (by rfl) (by rfl) (by rfl)) _ (by rfl)) (known_old 9 _ (of_decide_eq_true (by rfl)) (by rfl)) (fun ρ w hx hS => loadH_run hk' HLk.out g9 _ _ _ _ _ _ ρ w hx (E9.out.on hS))
        · exact coreG_held _ _ _ _ _ _ _ _ _ (by rfl) (by rfl) (wants_core 11 54 11 _ _ _ (by rfl) (by rfl) (by rfl) (known_core 11 54 _ _ (of_decide_eq_true (by rfl)) (by rfl) (by rfl) (by rfl)) _ (by rfl)) (known_old 8 _ (of_decide_eq_true (by rfl)) (by rfl)) (fun ρ w hx hS => loadH_run hk' HLk.out g8 _ _ _ _ _ _ ρ w hx (E8.out.on hS))
        · exact coreG_bin _ _ _ _ _ _ _ _ _ _ _ _ _ (by rfl) (by rfl) (wants_core 11 54 11 _ _ _ (by rfl) (by rfl) (by rfl) (known_core 11 54 _ _ (of_decide_eq_true (by rfl)) (by rfl) (by rfl) (by rfl)) _ (by rfl)) (known_core 12 55 _ _ (of_decide_eq_true (by rfl)) (by rfl) (by rfl) (by rfl)) (known_core 13 56 _ _ (of_decide_eq_true (by rfl)) (by rfl) (by rfl) (by rfl)) (fun ρ w hx hy => eqlH_run hk' HLk.out _ _ _ _ _ _ _ ρ w hx hy)
        · exact coreG_pick _ _ _ _ _ _ _ _ _ _ _ _ (by rfl) (by rfl) (wants_none) (known_core 11 54 _ _ (of_decide_eq_true (by rfl)) (by rfl) (by rfl) (by rfl)) (known_core 14 57 _ _ (of_decide_eq_true (by rfl)) (by rfl) (by rfl) (by rfl)) (known_const _) (by rfl)
        · exact coreG_move _ _ _ _ _ _ _ (by rfl) (by rfl) (wants_none) (known_core 15 58 _ _ (of_decide_eq_true (by rfl)) (by rfl) (by rfl) (by rfl))
        · exact coreG_move _ _ _ _ _ _ _ (by rfl) (by rfl) (wants_core 16 59 16 _ _ _ (by rfl) (by rfl) (by rfl) (known_core 16 59 _ _ (of_decide_eq_true (by rfl)) (by rfl) (by rfl) (by rfl)) _ (by rfl)) (known_old 6 _ (of_decide_eq_true (by rfl)) (by rfl))
        · exact coreG_move _ _ _ _ _ _ _ (by rfl) (by rfl) (wants_core 16 59 16 _ _ _ (by rfl) (by rfl) (by rfl) (known_core 16 59 _ _ (of_decide_eq_true (by rfl)) (by rfl) (by rfl) (by rfl)) _ (by rfl)) (known_old 0 _ (of_decide_eq_true (by rfl)) (by rfl))
        · exact core_pureAs _ (by rfl)
        · exact core_pureAs _ (by rfl)
        · exact coreG_bin _ _ _ _ _ _ _ _ _ _ _ _ _ (by rfl) (by rfl) (wants_core 16 59 16 _ _ _ (by rfl) (by rfl) (by rfl) (known_core 16 59 _ _ (of_decide_eq_true (by rfl)) (by rfl) (by rfl) (by rfl)) _ (by rfl)) (known_core 19 61 _ _ (of_decide_eq_true (by rfl)) (by rfl) (by rfl) (by rfl)) (known_core 20 63 _ _ (of_decide_eq_true (by rfl)) (by rfl) (by rfl) (by rfl)) (fun ρ w hx hy => eqlH_run hz HLz.out _ _ _ _ _ _ _ ρ w hx hy)
        · exact coreG_pick _ _ _ _ _ _ _ _ _ _ _ _ (by rfl) (by rfl) (wants_none) (known_core 16 59 _ _ (of_decide_eq_true (by rfl)) (by rfl) (by rfl) (by rfl)) (known_core 21 64 _ _ (of_decide_eq_true (by rfl)) (by rfl) (by rfl) (by rfl)) (known_const _) (by rfl)
      · refine all_cons ?_ (all_cons ?_ (all_cons ?_ (all_cons ?_ (all_cons ?_ (all_cons ?_ (all_cons ?_ (all_cons ?_ (all_cons ?_ (all_cons ?_ (all_cons ?_ (all_cons ?_ (all_cons ?_ (all_cons ?_ (all_cons ?_ (all_cons ?_ (all_cons ?_ (all_cons ?_ (all_cons ?_ (all_cons ?_ (all_cons ?_ (all_cons ?_ (all_cons ?_ (all_nil)))))))))))))))))))))))
        · exact core_stepAs _ (by rfl)
        · exact fun _ => coreG_callB _ 12 _ _ [.const (.slice none 0 0)] _ _ _ _ _ _ _ (by rfl) Tryd.func12 (by kernel_rfl) (by rfl) (by rfl) (wants_none) (.cons (known_const _) .nil) (fun u hb => C1.out u hb)
        · exact core_stepAs _ (by rfl)
        · exact core_stepAs _ (by rfl)
        · exact core_stepAs _ (by rfl)
        · exact core_stepAs _ (by rfl)
        · exact core_stepAs _ (by rfl)
        · exact core_stepAs _ (by rfl)
        · exact fun _ => coreG_callB _ 12 _ _ [.tmp 50] _ _ _ _ _ _ _ (by rfl) Tryd.func12 (by kernel_rfl) (by rfl) (by rfl) (wants_core 3 46 3 _ _ _ (by rfl) (by rfl) (by rfl) (known_core 3 46 _ _ (of_decide_eq_true (by rfl)) (by rfl) (by rfl) (by rfl)) _ (by rfl)) (.cons (known_core 7 50 _ _ (of_decide_eq_true (by rfl)) (by rfl) (by rfl) (by rfl)) .nil) (fun u hb => C2.out u hb)
        · exact core_stepAs _ (by rfl)
        · exact core_stepAs _ (by rfl)
        · exact core_stepAs _ (by rfl)
        · exact core_stepAs _ (by rfl)
        · exact core_stepAs _ (by rfl)
        · exact core_stepAs _ (by rfl)
        · exact core_stepAs _ (by rfl)
        · exact core_stepAs _ (by rfl)
        · exact core_stepAs _ (by rfl)
        · exact core_stepAs _ (by rfl)
        · exact fun _ => coreG_callB _ 10 _ _ [.tmp 60] _ _ _ _ _ _ _ (by rfl) Tryd.func10 (by kernel_rfl) (by rfl) (by rfl) (wants_core 16 59 16 _ _ _ (by rfl) (by rfl) (by rfl) (known_core 16 59 _ _ (of_decide_eq_true (by rfl)) (by rfl) (by rfl) (by rfl)) _ (by rfl)) (.cons (known_core 17 60 _ _ (of_decide_eq_true (by rfl)) (by rfl) (by rfl) (by rfl)) .nil) (fun u hb => C3.out u hb)
        · exact fun _ => coreG_callB _ 12 _ _ [.tmp 62] _ _ _ _ _ _ _ (by rfl) Tryd.func12 (by kernel_rfl) (by rfl) (by rfl) (wants_core 16 59 16 _ _ _ (by rfl) (by rfl) (by rfl) (known_core 16 59 _ _ (of_decide_eq_true (by rfl)) (by rfl) (by rfl) (by rfl)) _ (by rfl)) (.cons (known_core 18 62 _ _ (of_decide_eq_true (by rfl)) (by rfl) (by rfl) (by rfl)) .nil) (fun u hb => C4.out u hb)
        · exact core_stepAs _ (by rfl)
        · exact core_stepAs _ (by rfl)
      intro vs y9 hc
      have BZ := bel_tr B10.out hc.bel
      refine assign_one (i := 23) (.tmp 65) 4 _ _ _ (.bool true) (by kernel_rfl) (by rfl) (hc.at_ (of_decide_eq_true (by kernel_rfl)) (by rfl) 22 65 _ (.bool true) (by rfl) (by rfl) (by rfl)) (hc.bel) ?_
      refine wpAnyH_done (by kernel_rfl) ?_ _
      refine NoPanic.normal ?_
      generalize hA : Act.put (over _ _ vs) (some 4) (.bool true) = A
      have hA0 : A.tmps.getD 4 undef = .bool true := by rw [← hA]; exact put_at _ _ _ (by rw [over_size]; exact Nat.le_of_ble_eq_true rfl)
      have hAd : A.defers = [] := by rw [← hA, put_defers, over_defers]
      clear hA hc
      go_wp2_with fail
      refine bodyPost_ret (v := .bool true) (by simp [results, Tryd.results3, go_sem] at hA0 ⊢; simp [hA0]) hAd ⟨rfl, BZ⟩
    · obtain rfl : k = n := by omega
      by_cases hkc : k < c
      · go_wp2_with fail
        refine (write_any g _ 0 _ (l.take k) [] w9 S9.out (Rd.nil _ _) (Nat.zero_le _) (by omega) (fun b' o' _ h => absurd h (Nat.lt_irrefl 0)) (by simp) T9.out (by omega) (by omega) (by rw [List.length_take]; omega)).mono ?_
        rintro e w10 ⟨rfl, s10, g10⟩
        replace s10 : SumAt w10 g l := by first | (rw [List.append_nil, List.take_of_length_le (by omega)] at s10; exact s10) | (rw [List.take_append_drop] at s10; exact s10)
        have S10 := Lib.hid s10
        have T10 := Lib.hid (T9.out.grown g10 (by omega) (by omega))
        have B10 : Hid (Below w.heap.size w w10) := Lib.hid (B9.out.grown g10 B9.out.size (by simp; omega))
        replace E7 := Lib.hid (E7.out.grown g10 (by simpa using h7g))
        replace E8 := Lib.hid (E8.out.grown g10 (by simpa using h8g))
        replace E9 := Lib.hid (E9.out.grown g10 (by simpa using h9g))
        have R10 := Lib.hid (HR.out.below B10.out)
        have HLz := Lib.hid (sha_len l)
        have C1 : Hid (∀ u, Below w10.heap.size w10 u → Calls Tryd.prog 12 #[.slice none 0 0] u fun e w' => e = .returned (.agg (bs h0).toArray) ∧ Below u.heap.size u w') := Lib.hid (fun u hb => by rw [← HH0.out]; exact of_ok none 0 0 [] u (Rd.nil _ _) (Nat.le_refl _) (by omega) (by simp) (T10.out.on hb) (by omega))
        have C2 : Hid (∀ u, Below w10.heap.size w10 u → Calls Tryd.prog 12 #[.slice A k c] u fun e w' => e = .returned (.agg (bs hk').toArray) ∧ Below u.heap.size u w') := Lib.hid (fun u hb => by rw [← HHK.out]; exact of_ok _ k c (l.take k) u (by have := (R10.out.below hb).take hkn; rwa [show (bs l).take k = bs (l.take k) by simp [bs]] at this) (by omega) hcm (fun y hy => HB.out y (List.mem_of_mem_take hy)) (T10.out.on hb) (by omega))
        have C3 : Hid (∀ u, Below w10.heap.size w10 u → Calls Tryd.prog 10 #[.pointer (some ⟨g, 0, none⟩)] u fun e w' => e = .returned (.agg (bs (sha l)).toArray) ∧ Below u.heap.size u w') := Lib.hid (fun u hb => hash_ok g l u (S10.out.on hb) (T10.out.on hb) (by omega))
        have C4 : Hid (∀ u, Below w10.heap.size w10 u → Calls Tryd.prog 12 #[.slice A k c] u fun e w' => e = .returned (.agg (bs (sha l)).toArray) ∧ Below u.heap.size u w') := Lib.hid (fun u hb => of_ok _ k c l u (R10.out.below hb) hnc hcm HB.out (T10.out.on hb) (by omega))
        obtain ⟨hz, hhz⟩ : ∃ x, sha l = x := ⟨_, rfl⟩
        rw [hhz] at HLz C3 C4
        clear hhz s10 g10 S9 T9 B9 S10 T10 R10 HR HB HN HF HT HH0 HHK hk hkz
        go_wp2_with fail
        try simp only [List.append_eq, List.cons_append, List.nil_append]
        refine wp_region_noPanic ?_
        refine wp_region_held_drew (S := fun w' => Below w10.heap.size w10 w') (by kernel_rfl) ((Below.refl _ _).drew) (fun _ => ?_)
        refine wpAnyH_cores (fuel := 1) (⟨0, 43, [], Kind.val (.agg (bs h0).toArray), true⟩ :: ⟨1, 44, [0], Kind.val (.agg (bs h0).toArray), false⟩ :: ⟨2, 45, [0, 1], Kind.val (.bool true), true⟩ :: ⟨3, 46, [2], Kind.val (.bool true), true⟩ :: ⟨4, 47, [3], Kind.val (.agg (bs hk').toArray), true⟩ :: ⟨5, 48, [3, 4], Kind.val (.slice A k c), true⟩ :: ⟨6, 49, [3, 5], Kind.val (.int .i64 (k : Nat)), true⟩ :: ⟨7, 50, [3, 5, 6], Kind.val (.slice A k c), true⟩ :: ⟨8, 51, [3, 7], Kind.val (.agg (bs hk').toArray), false⟩ :: ⟨9, 52, [3, 4, 8], Kind.val (.bool true), true⟩ :: ⟨10, 53, [3, 9], Kind.val (.bool true), true⟩ :: ⟨11, 54, [10], Kind.val (.bool true), true⟩ :: ⟨12, 55, [11], Kind.val (.agg (bs hk').toArray), true⟩ :: ⟨13, 56, [11, 12], Kind.val (.agg (bs hk').toArray), true⟩ :: ⟨14, 57, [11, 12, 13], Kind.val (.bool true), true⟩ :: ⟨15, 58, [11, 14], Kind.val (.bool true), true⟩ :: ⟨16, 59, [15], Kind.val (.bool true), true⟩ :: ⟨17, 60, [16], Kind.val (.pointer (some ⟨g, 0, none⟩)), true⟩ :: ⟨19, 62, [16, 17], Kind.val (.slice A k c), true⟩ :: ⟨18, 61, [16, 17, 18], Kind.val (.agg (bs hz).toArray), false⟩ :: ⟨20, 63, [16, 18, 19], Kind.val (.agg (bs hz).toArray), false⟩ :: ⟨21, 64, [16, 19, 20], Kind.val (.bool true), true⟩ :: ⟨22, 65, [16, 21], Kind.val (.bool true), true⟩ :: []) _ _ w10 _ ?_ ?_ ?_ ?_ ?_ ?_ ?_ ?_ ?_ ?_ ?_
        · rfl
        · kernel_rfl
        · exact of_decide_eq_true (by kernel_rfl)
        · exact all_cons ⟨_, by rfl, by rfl⟩ (all_cons ⟨_, by rfl, by rfl⟩ (all_cons ⟨_, by rfl, by rfl⟩ (all_cons ⟨_, by rfl, by rfl⟩ (all_cons ⟨_, by rfl, by rfl⟩ (all_cons ⟨_, by rfl, by rfl⟩ (all_cons ⟨_, by rfl, by rfl⟩ (all_cons ⟨_, by rfl, by rfl⟩ (all_cons ⟨_, by rfl, by rfl⟩ (all_cons ⟨_, by rfl, by rfl⟩ (all_cons ⟨_, by rfl, by rfl⟩ (all_cons ⟨_, by rfl, by rfl⟩ (all_cons ⟨_, by rfl, by rfl⟩ (all_cons ⟨_, by rfl, by rfl⟩ (all_cons ⟨_, by rfl, by rfl⟩ (all_cons ⟨_, by rfl, by rfl⟩ (all_cons ⟨_, by rfl, by rfl⟩ (all_cons ⟨_, by rfl, by rfl⟩ (all_cons ⟨_, by rfl, by rfl⟩ (all_cons ⟨_, by rfl, by rfl⟩ (all_cons ⟨_, by rfl, by rfl⟩ (all_cons ⟨_, by rfl, by rfl⟩ (all_cons ⟨_, by rfl, by rfl⟩ (all_nil)))))))))))))))))))))))
        · exact fun _ hb => hb
        · exact (Below.refl _ _).drew
        · kernel_rfl
        · exact fun _ _ _ _ _ h => h
        · refine all_cons ?_ (all_cons ?_ (all_cons ?_ (all_cons ?_ (all_cons ?_ (all_cons ?_ (all_cons ?_ (all_cons ?_ (all_cons ?_ (all_cons ?_ (all_cons ?_ (all_cons ?_ (all_cons ?_ (all_cons ?_ (all_cons ?_ (all_cons ?_ (all_cons ?_ (all_cons ?_ (all_cons ?_ (all_cons ?_ (all_cons ?_ (all_cons ?_ (all_cons ?_ (all_nil)))))))))))))))))))))))
          · exact coreG_held _ _ _ _ _ _ _ _ _ (by rfl) (by rfl) (wants_none) (known_old 7 _ (of_decide_eq_true (by rfl)) (by rfl)) (fun ρ w hx hS => loadH_run h0 HL0.out g7 _ _ _ _ _ _ ρ w hx (E7.out.on hS))
          · exact core_pureAs _ (by rfl)
          · exact coreG_bin _ _ _ _ _ _ _ _ _ _ _ _ _ (by rfl) (by rfl) (wants_none) (known_core 0 43 _ _ (of_decide_eq_true (by rfl)) (by rfl) (by rfl) (by rfl)) (known_core 1 44 _ _ (of_decide_eq_true (by rfl)) (by rfl) (by rfl) (by rfl)) (fun ρ w hx hy => eqlH_run h0 HL0.out _ _ _ _ _ _ _ ρ w hx hy)
          · exact coreG_move _ _ _ _ _ _ _ (by rfl) (by rfl) (wants_none) (known_core 2 45 _ _ (of_decide_eq_true (by rfl)) (by rfl) (by rfl) (by rfl))
          · exact coreG_held _ _ _ _ _ _ _ _ _ (by rfl) (by rfl) (wants_core 3 46 3 _ _ _ (by rfl) (by rfl) (by rfl) (known_core 3 46 _ _ (of_decide_eq_true (by rfl)) (by rfl) (by rfl) (by rfl)) _ (by rfl)) (known_old 8 _ (of_decide_eq_true (by rfl)) (by rfl)) (fun ρ w hx hS => loadH_run hk' HLk.out g8 _ _ _ _ _ _ ρ w hx (E8.out.on hS))
          · exact coreG_move _ _ _ _ _ _ _ (by rfl) (by rfl) (wants_core 3 46 3 _ _ _ (by rfl) (by rfl) (by rfl) (known_core 3 46 _ _ (of_decide_eq_true (by rfl)) (by rfl) (by rfl) (by rfl)) _ (by rfl)) (known_old 0 _ (of_decide_eq_true (by rfl)) (by rfl))
          · exact coreG_move _ _ _ _ _ _ _ (by rfl) (by rfl) (wants_core 3 46 3 _ _ _ (by rfl) (by rfl) (by rfl) (known_core 3 46 _ _ (of_decide_eq_true (by rfl)) (by rfl) (by rfl) (by rfl)) _ (by rfl)) (known_old 5 _ (of_decide_eq_true (by rfl)) (by rfl))
          · exact coreG_held2 _ _ _ _ _ _ _ _ _ _ _ (by rfl) (by rfl) (wants_core 3 46 3 _ _ _ (by rfl) (by rfl) (by rfl) (known_core 3 46 _ _ (of_decide_eq_true (by rfl)) (by rfl) (by rfl) (by rfl)) _ (by rfl)) (known_core 5 48 _ _ (of_decide_eq_true (by rfl)) (by rfl) (by rfl) (by rfl)) (known_core 6 49 _ _ (of_decide_eq_true (by rfl)) (by rfl) (by rfl) (by rfl)) (fun ρ w hx hy _ => sliceTo _ _ _ c k (by omega) hcm hx hy)
          · exact core_pureAs _ (by rfl)
          · exact coreG_bin _ _ _ _ _ _ _ _ _ _ _ _ _ (by rfl) (by rfl) (wants_core 3 46 3 _ _ _ (by rfl) (by rfl) (by rfl) (known_core 3 46 _ _ (of_decide_eq_true (by rfl)) (by rfl) (by rfl) (by rfl)) _ (by rfl)) (known_core 4 47 _ _ (of_decide_eq_true (by rfl)) (by rfl) (by rfl) (by rfl)) (known_core 8 51 _ _ (of_decide_eq_true (by rfl)) (by rfl) (by rfl) (by rfl)) (fun ρ w hx hy => eqlH_run hk' HLk.out _ _ _ _ _ _ _ ρ w hx hy)
          · exact coreG_pick _ _ _ _ _ _ _ _ _ _ _ _ (by rfl) (by rfl) (wants_none) (known_core 3 46 _ _ (of_decide_eq_true (by rfl)) (by rfl) (by rfl) (by rfl)) (known_core 9 52 _ _ (of_decide_eq_true (by rfl)) (by rfl) (by rfl) (by rfl)) (known_const _) (by rfl)
          · exact coreG_move _ _ _ _ _ _ _ (by rfl) (by rfl) (wants_none) (known_core 10 53 _ _ (of_decide_eq_true (by rfl)) (by rfl) (by rfl) (by rfl))
          · exact coreG_held _ _ _ _ _ _ _ _ _ (by rfl) (by rfl) (wants_core 11 54 11 _ _ _ (by rfl) (by rfl) (by rfl) (known_core 11 54 _ _ (of_decide_eq_true (by rfl)) (by rfl) (by rfl) (by rfl)) _ (by rfl)) (known_old 9 _ (of_decide_eq_true (by rfl)) (by rfl)) (fun ρ w hx hS => loadH_run hk' HLk.out g9 _ _ _ _ _ _ ρ w hx (E9.out.on hS))
          · exact coreG_held _ _ _ _ _ _ _ _ _ (by rfl) (by rfl) (wants_core 11 54 11 _ _ _ (by rfl) (by rfl) (by rfl) (known_core 11 54 _ _ (of_decide_eq_true (by rfl)) (by rfl) (by rfl) (by rfl)) _ (by rfl)) (known_old 8 _ (of_decide_eq_true (by rfl)) (by rfl)) (fun ρ w hx hS => loadH_run hk' HLk.out g8 _ _ _ _ _ _ ρ w hx (E8.out.on hS))
          · exact coreG_bin _ _ _ _ _ _ _ _ _ _ _ _ _ (by rfl) (by rfl) (wants_core 11 54 11 _ _ _ (by rfl) (by rfl) (by rfl) (known_core 11 54 _ _ (of_decide_eq_true (by rfl)) (by rfl) (by rfl) (by rfl)) _ (by rfl)) (known_core 12 55 _ _ (of_decide_eq_true (by rfl)) (by rfl) (by rfl) (by rfl)) (known_core 13 56 _ _ (of_decide_eq_true (by rfl)) (by rfl) (by rfl) (by rfl)) (fun ρ w hx hy => eqlH_run hk' HLk.out _ _ _ _ _ _ _ ρ w hx hy)
          · exact coreG_pick _ _ _ _ _ _ _ _ _ _ _ _ (by rfl) (by rfl) (wants_none) (known_core 11 54 _ _ (of_decide_eq_true (by rfl)) (by rfl) (by rfl) (by rfl)) (known_core 14 57 _ _ (of_decide_eq_true (by rfl)) (by rfl) (by rfl) (by rfl)) (known_const _) (by rfl)
          · exact coreG_move _ _ _ _ _ _ _ (by rfl) (by rfl) (wants_none) (known_core 15 58 _ _ (of_decide_eq_true (by rfl)) (by rfl) (by rfl) (by rfl))
          · exact coreG_move _ _ _ _ _ _ _ (by rfl) (by rfl) (wants_core 16 59 16 _ _ _ (by rfl) (by rfl) (by rfl) (known_core 16 59 _ _ (of_decide_eq_true (by rfl)) (by rfl) (by rfl) (by rfl)) _ (by rfl)) (known_old 6 _ (of_decide_eq_true (by rfl)) (by rfl))
          · exact coreG_move _ _ _ _ _ _ _ (by rfl) (by rfl) (wants_core 16 59 16 _ _ _ (by rfl) (by rfl) (by rfl) (known_core 16 59 _ _ (of_decide_eq_true (by rfl)) (by rfl) (by rfl) (by rfl)) _ (by rfl)) (known_old 0 _ (of_decide_eq_true (by rfl)) (by rfl))
          · exact core_pureAs _ (by rfl)
          · exact core_pureAs _ (by rfl)
          · exact coreG_bin _ _ _ _ _ _ _ _ _ _ _ _ _ (by rfl) (by rfl) (wants_core 16 59 16 _ _ _ (by rfl) (by rfl) (by rfl) (known_core 16 59 _ _ (of_decide_eq_true (by rfl)) (by rfl) (by rfl) (by rfl)) _ (by rfl)) (known_core 19 61 _ _ (of_decide_eq_true (by rfl)) (by rfl) (by rfl) (by rfl)) (known_core 20 63 _ _ (of_decide_eq_true (by rfl)) (by rfl) (by rfl) (by rfl)) (fun ρ w hx hy => eqlH_run hz HLz.out _ _ _ _ _ _ _ ρ w hx hy)
          · exact coreG_pick _ _ _ _ _ _ _ _ _ _ _ _ (by rfl) (by rfl) (wants_none) (known_core 16 59 _ _ (of_decide_eq_true (by rfl)) (by rfl) (by rfl) (by rfl)) (known_core 21 64 _ _ (of_decide_eq_true (by rfl)) (by rfl) (by rfl) (by rfl)) (known_const _) (by rfl)
        · refine all_cons ?_ (all_cons ?_ (all_cons ?_ (all_cons ?_ (all_cons ?_ (all_cons ?_ (all_cons ?_ (all_cons ?_ (all_cons ?_ (all_cons ?_ (all_cons ?_ (all_cons ?_ (all_cons ?_ (all_cons ?_ (all_cons ?_ (all_cons ?_ (all_cons ?_ (all_cons ?_ (all_cons ?_ (all_cons ?_ (all_cons ?_ (all_cons ?_ (all_cons ?_ (all_nil)))))))))))))))))))))))
          · exact core_stepAs _ (by rfl)
          · exact fun _ => coreG_callB _ 12 _ _ [.const (.slice none 0 0)] _ _ _ _ _ _ _ (by rfl) Tryd.func12 (by kernel_rfl) (by rfl) (by rfl) (wants_none) (.cons (known_const _) .nil) (fun u hb => C1.out u hb)
          · exact core_stepAs _ (by rfl)
          · exact core_stepAs _ (by rfl)
          · exact core_stepAs _ (by rfl)
          · exact core_stepAs _ (by rfl)
          · exact core_stepAs _ (by rfl)
          · exact core_stepAs _ (by rfl)
          · exact fun _ => coreG_callB _ 12 _ _ [.tmp 50] _ _ _ _ _ _ _ (by rfl) Tryd.func12 (by kernel_rfl) (by rfl) (by rfl) (wants_core 3 46 3 _ _ _ (by rfl) (by rfl) (by rfl) (known_core 3 46 _ _ (of_decide_eq_true (by rfl)) (by rfl) (by rfl) (by rfl)) _ (by rfl)) (.cons (known_core 7 50 _ _ (of_decide_eq_true (by rfl)) (by rfl) (by rfl) (by rfl)) .nil) (fun u hb => C2.out u hb)
          · exact core_stepAs _ (by rfl)
          · exact core_stepAs _ (by rfl)
          · exact core_stepAs _ (by rfl)
          · exact core_stepAs _ (by rfl)
          · exact core_stepAs _ (by rfl)
          · exact core_stepAs _ (by rfl)
          · exact core_stepAs _ (by rfl)
          · exact core_stepAs _ (by rfl)
          · exact core_stepAs _ (by rfl)
          · exact core_stepAs _ (by rfl)
          · exact fun _ => coreG_callB _ 10 _ _ [.tmp 60] _ _ _ _ _ _ _ (by rfl) Tryd.func10 (by kernel_rfl) (by rfl) (by rfl) (wants_core 16 59 16 _ _ _ (by rfl) (by rfl) (by rfl) (known_core 16 59 _ _ (of_decide_eq_true (by rfl)) (by rfl) (by rfl) (by rfl)) _ (by rfl)) (.cons (known_core 17 60 _ _ (of_decide_eq_true (by rfl)) (by rfl) (by rfl) (by rfl)) .nil) (fun u hb => C3.out u hb)
          · exact fun _ => coreG_callB _ 12 _ _ [.tmp 62] _ _ _ _ _ _ _ (by rfl) Tryd.func12 (by kernel_rfl) (by rfl) (by rfl) (wants_core 16 59 16 _ _ _ (by rfl) (by rfl) (by rfl) (known_core 16 59 _ _ (of_decide_eq_true (by rfl)) (by rfl) (by rfl) (by rfl)) _ (by rfl)) (.cons (known_core 18 62 _ _ (of_decide_eq_true (by rfl)) (by rfl) (by rfl) (by rfl)) .nil) (fun u hb => C4.out u hb)
          · exact core_stepAs _ (by rfl)
          · exact core_stepAs _ (by rfl)
        intro vs y9 hc
        have BZ := bel_tr B10.out hc.bel
        refine assign_one (i := 23) (.tmp 65) 4 _ _ _ (.bool true) (by kernel_rfl) (by rfl) (hc.at_ (of_decide_eq_true (by kernel_rfl)) (by rfl) 22 65 _ (.bool true) (by rfl) (by rfl) (by rfl)) (hc.bel) ?_
        refine wpAnyH_done (by kernel_rfl) ?_ _
        refine NoPanic.normal ?_
        generalize hA : Act.put (over _ _ vs) (some 4) (.bool true) = A
        have hA0 : A.tmps.getD 4 undef = .bool true := by rw [← hA]; exact put_at _ _ _ (by rw [over_size]; exact Nat.le_of_ble_eq_true rfl)
        have hAd : A.defers = [] := by rw [← hA, put_defers, over_defers]
        clear hA hc
        go_wp2_with fail
        refine bodyPost_ret (v := .bool true) (by simp [results, Tryd.results3, go_sem] at hA0 ⊢; simp [hA0]) hAd ⟨rfl, BZ⟩
      · go_wp2_with fail
        refine (write_any g _ 0 _ (l.take k) [] w9 S9.out (Rd.nil _ _) (Nat.zero_le _) (by omega) (fun b' o' _ h => absurd h (Nat.lt_irrefl 0)) (by simp) T9.out (by omega) (by omega) (by rw [List.length_take]; omega)).mono ?_
        rintro e w10 ⟨rfl, s10, g10⟩
        replace s10 : SumAt w10 g l := by first | (rw [List.append_nil, List.take_of_length_le (by omega)] at s10; exact s10) | (rw [List.take_append_drop] at s10; exact s10)
        have S10 := Lib.hid s10
        have T10 := Lib.hid (T9.out.grown g10 (by omega) (by omega))
        have B10 : Hid (Below w.heap.size w w10) := Lib.hid (B9.out.grown g10 B9.out.size (by simp; omega))
        replace E7 := Lib.hid (E7.out.grown g10 (by simpa using h7g))
        replace E8 := Lib.hid (E8.out.grown g10 (by simpa using h8g))
        replace E9 := Lib.hid (E9.out.grown g10 (by simpa using h9g))
        have R10 := Lib.hid (HR.out.below B10.out)
        have HLz := Lib.hid (sha_len l)
        have C1 : Hid (∀ u, Below w10.heap.size w10 u → Calls Tryd.prog 12 #[.slice none 0 0] u fun e w' => e = .returned (.agg (bs h0).toArray) ∧ Below u.heap.size u w') := Lib.hid (fun u hb => by rw [← HH0.out]; exact of_ok none 0 0 [] u (Rd.nil _ _) (Nat.le_refl _) (by omega) (by simp) (T10.out.on hb) (by omega))
        have C2 : Hid (∀ u, Below w10.heap.size w10 u → Calls Tryd.prog 12 #[.slice A k c] u fun e w' => e = .returned (.agg (bs hk').toArray) ∧ Below u.heap.size u w') := Lib.hid (fun u hb => by rw [← HHK.out]; exact of_ok _ k c (l.take k) u (by have := (R10.out.below hb).take hkn; rwa [show (bs l).take k = bs (l.take k) by simp [bs]] at this) (by omega) hcm (fun y hy => HB.out y (List.mem_of_mem_take hy)) (T10.out.on hb) (by omega))
        have C3 : Hid (∀ u, Below w10.heap.size w10 u → Calls Tryd.prog 10 #[.pointer (some ⟨g, 0, none⟩)] u fun e w' => e = .returned (.agg (bs (sha l)).toArray) ∧ Below u.heap.size u w') := Lib.hid (fun u hb => hash_ok g l u (S10.out.on hb) (T10.out.on hb) (by omega))
        have C4 : Hid (∀ u, Below w10.heap.size w10 u → Calls Tryd.prog 12 #[.slice A k c] u fun e w' => e = .returned (.agg (bs (sha l)).toArray) ∧ Below u.heap.size u w') := Lib.hid (fun u hb => of_ok _ k c l u (R10.out.below hb) hnc hcm HB.out (T10.out.on hb) (by omega))
        obtain ⟨hz, hhz⟩ : ∃ x, sha l = x := ⟨_, rfl⟩
        rw [hhz] at HLz C3 C4
        clear hhz s10 g10 S9 T9 B9 S10 T10 R10 HR HB HN HF HT HH0 HHK hk hkz
        go_wp2_with fail
        try simp only [List.append_eq, List.cons_append, List.nil_append]
        refine wp_region_noPanic ?_
        refine wp_region_held_drew (S := fun w' => Below w10.heap.size w10 w') (by kernel_rfl) ((Below.refl _ _).drew) (fun _ => ?_)
        refine wpAnyH_cores (fuel := 1) (⟨0, 43, [], Kind.val (.agg (bs h0).toArray), true⟩ :: ⟨1, 44, [0], Kind.val (.agg (bs h0).toArray), false⟩ :: ⟨2, 45, [0, 1], Kind.val (.bool true), true⟩ :: ⟨3, 46, [2], Kind.val (.bool true), true⟩ :: ⟨4, 47, [3], Kind.val (.agg (bs hk').toArray), true⟩ :: ⟨5, 48, [3, 4], Kind.val (.slice A k c), true⟩ :: ⟨6, 49, [3, 5], Kind.val (.int .i64 (k : Nat)), true⟩ :: ⟨7, 50, [3, 5, 6], Kind.val (.slice A k c), true⟩ :: ⟨8, 51, [3, 7], Kind.val (.agg (bs hk').toArray), false⟩ :: ⟨9, 52, [3, 4, 8], Kind.val (.bool true), true⟩ :: ⟨10, 53, [3, 9], Kind.val (.bool true), true⟩ :: ⟨11, 54, [10], Kind.val (.bool true), true⟩ :: ⟨12, 55, [11], Kind.val (.agg (bs hk').toArray), true⟩ :: ⟨13, 56, [11, 12], Kind.val (.agg (bs hk').toArray), true⟩ :: ⟨14, 57, [11, 12, 13], Kind.val (.bool true), true⟩ :: ⟨15, 58, [11, 14], Kind.val (.bool true), true⟩ :: ⟨16, 59, [15], Kind.val (.bool true), true⟩ :: ⟨17, 60, [16], Kind.val (.pointer (some ⟨g, 0, none⟩)), true⟩ :: ⟨19, 62, [16, 17], Kind.val (.slice A k c), true⟩ :: ⟨18, 61, [16, 17, 18], Kind.val (.agg (bs hz).toArray), false⟩ :: ⟨20, 63, [16, 18, 19], Kind.val (.agg (bs hz).toArray), false⟩ :: ⟨21, 64, [16, 19, 20], Kind.val (.bool true), true⟩ :: ⟨22, 65, [16, 21], Kind.val (.bool true), true⟩ :: []) _ _ w10 _ ?_ ?_ ?_ ?_ ?_ ?_ ?_ ?_ ?_ ?_ ?_
        · rfl
        · kernel_rfl
        · exact of_decide_eq_true (by kernel_rfl)
        · exact all_cons ⟨_, by rfl, by rfl⟩ (all_cons ⟨_, by rfl, by rfl⟩ (all_cons ⟨_, by rfl, by rfl⟩ (all_cons ⟨_, by rfl, by rfl⟩ (all_cons ⟨_, by rfl, by rfl⟩ (all_cons ⟨_, by rfl, by rfl⟩ (all_cons ⟨_, by rfl, by rfl⟩ (all_cons ⟨_, by rfl, by rfl⟩ (all_cons ⟨_, by rfl, by rfl⟩ (all_cons ⟨_, by rfl, by rfl⟩ (all_cons ⟨_, by rfl, by rfl⟩ (all_cons ⟨_, by rfl, by rfl⟩ (all_cons ⟨_, by rfl, by rfl⟩ (all_cons ⟨_, by rfl, by rfl⟩ (all_cons ⟨_, by rfl, by rfl⟩ (all_cons ⟨_, by rfl, by rfl⟩ (all_cons ⟨_, by rfl, by rfl⟩ (all_cons ⟨_, by rfl, by rfl⟩ (all_cons ⟨_, by rfl, by rfl⟩ (all_cons ⟨_, by rfl, by rfl⟩ (all_cons ⟨_, by rfl, by rfl⟩ (all_cons ⟨_, by rfl, by rfl⟩ (all_cons ⟨_, by rfl, by rfl⟩ (all_nil)))))))))))))))))))))))
        · exact fun _ hb => hb
        · exact (Below.refl _ _).drew
        · kernel_rfl
        · exact fun _ _ _ _ _ h => h
        · refine all_cons ?_ (all_cons ?_ (all_cons ?_ (all_cons ?_ (all_cons ?_ (all_cons ?_ (all_cons ?_ (all_cons ?_ (all_cons ?_ (all_cons ?_ (all_cons ?_ (all_cons ?_ (all_cons ?_ (all_cons ?_ (all_cons ?_ (all_cons ?_ (all_cons ?_ (all_cons ?_ (all_cons ?_ (all_cons ?_ (all_cons ?_ (all_cons ?_ (all_cons ?_ (all_nil)))))))))))))))))))))))
          · exact coreG_held _ _ _ _ _ _ _ _ _ (by rfl) (by rfl) (wants_none) (known_old 7 _ (of_decide_eq_true (by rfl)) (by rfl)) (fun ρ w hx hS => loadH_run h0 HL0.out g7 _ _ _ _ _ _ ρ w hx (E7.out.on hS))
          · exact core_pureAs _ (by rfl)
          · exact coreG_bin _ _ _ _ _ _ _ _ _ _ _ _ _ (by rfl) (by rfl) (wants_none) (known_core 0 43 _ _ (of_decide_eq_true (by rfl)) (by rfl) (by rfl) (by rfl)) (known_core 1 44 _ _ (of_decide_eq_true (by rfl)) (by rfl) (by rfl) (by rfl)) (fun ρ w hx hy => eqlH_run h0 HL0.out _ _ _ _ _ _ _ ρ w hx hy)
          · exact coreG_move _ _ _ _ _ _ _ (by rfl) (by rfl) (wants_none) (known_core 2 45 _ _ (of_decide_eq_true (by rfl)) (by rfl) (by rfl) (by rfl))
          · exact coreG_held _ _ _ _ _ _ _ _ _ (by rfl) (by rfl) (wants_core 3 46 3 _ _ _ (by rfl) (by rfl) (by rfl) (known_core 3 46 _ _ (of_decide_eq_true (by rfl)) (by rfl) (by rfl) (by rfl)) _ (by rfl)) (known_old 8 _ (of_decide_eq_true (by rfl)) (by rfl)) (fun ρ w hx hS => loadH_run hk' HLk.out g8 _ _ _ _ _ _ ρ w hx (E8.out.on hS))
          · exact coreG_move _ _ _ _ _ _ _ (by rfl) (by rfl) (wants_core 3 46 3 _ _ _ (by rfl) (by rfl) (by rfl) (known_core 3 46 _ _ (of_decide_eq_true (by rfl)) (by rfl) (by rfl) (by rfl)) _ (by rfl)) (known_old 0 _ (of_decide_eq_true (by rfl)) (by rfl))
          · exact coreG_move _ _ _ _ _ _ _ (by rfl) (by rfl) (wants_core 3 46 3 _ _ _ (by rfl) (by rfl) (by rfl) (known_core 3 46 _ _ (of_decide_eq_true (by rfl)) (by rfl) (by rfl) (by rfl)) _ (by rfl)) (known_old 5 _ (of_decide_eq_true (by rfl)) (by rfl))
          · exact coreG_held2 _ _ _ _ _ _ _ _ _ _ _ (by rfl) (by rfl) (wants_core 3 46 3 _ _ _ (by rfl) (by rfl) (by rfl) (known_core 3 46 _ _ (of_decide_eq_true (by rfl)) (by rfl) (by rfl) (by rfl)) _ (by rfl)) (known_core 5 48 _ _ (of_decide_eq_true (by rfl)) (by rfl) (by rfl) (by rfl)) (known_core 6 49 _ _ (of_decide_eq_true (by rfl)) (by rfl) (by rfl) (by rfl)) (fun ρ w hx hy _ => sliceTo _ _ _ c k (by omega) hcm hx hy)
          · exact core_pureAs _ (by rfl)
          · exact coreG_bin _ _ _ _ _ _ _ _ _ _ _ _ _ (by rfl) (by rfl) (wants_core 3 46 3 _ _ _ (by rfl) (by rfl) (by rfl) (known_core 3 46 _ _ (of_decide_eq_true (by rfl)) (by rfl) (by rfl) (by rfl)) _ (by rfl)) (known_core 4 47 _ _ (of_decide_eq_true (by rfl)) (by rfl) (by rfl) (by rfl)) (known_core 8 51 _ _ (of_decide_eq_true (by rfl)) (by rfl) (by rfl) (by rfl)) (fun ρ w hx hy => eqlH_run hk' HLk.out _ _ _ _ _ _ _ ρ w hx hy)
          · exact coreG_pick _ _ _ _ _ _ _ _ _ _ _ _ (by rfl) (by rfl) (wants_none) (known_core 3 46 _ _ (of_decide_eq_true (by rfl)) (by rfl) (by rfl) (by rfl)) (known_core 9 52 _ _ (of_decide_eq_true (by rfl)) (by rfl) (by rfl) (by rfl)) (known_const _) (by rfl)
          · exact coreG_move _ _ _ _ _ _ _ (by rfl) (by rfl) (wants_none) (known_core 10 53 _ _ (of_decide_eq_true (by rfl)) (by rfl) (by rfl) (by rfl))
          · exact coreG_held _ _ _ _ _ _ _ _ _ (by rfl) (by rfl) (wants_core 11 54 11 _ _ _ (by rfl) (by rfl) (by rfl) (known_core 11 54 _ _ (of_decide_eq_true (by rfl)) (by rfl) (by rfl) (by rfl)) _ (by rfl)) (known_old 9 _ (of_decide_eq_true (by rfl)) (by rfl)) (fun ρ w hx hS => loadH_run hk' HLk.out g9 _ _ _ _ _ _ ρ w hx (E9.out.on hS))
          · exact coreG_held _ _ _ _ _ _ _ _ _ (by rfl) (by rfl) (wants_core 11 54 11 _ _ _ (by rfl) (by rfl) (by rfl) (known_core 11 54 _ _ (of_decide_eq_true (by rfl)) (by rfl) (by rfl) (by rfl)) _ (by rfl)) (known_old 8 _ (of_decide_eq_true (by rfl)) (by rfl)) (fun ρ w hx hS => loadH_run hk' HLk.out g8 _ _ _ _ _ _ ρ w hx (E8.out.on hS))
          · exact coreG_bin _ _ _ _ _ _ _ _ _ _ _ _ _ (by rfl) (by rfl) (wants_core 11 54 11 _ _ _ (by rfl) (by rfl) (by rfl) (known_core 11 54 _ _ (of_decide_eq_true (by rfl)) (by rfl) (by rfl) (by rfl)) _ (by rfl)) (known_core 12 55 _ _ (of_decide_eq_true (by rfl)) (by rfl) (by rfl) (by rfl)) (known_core 13 56 _ _ (of_decide_eq_true (by rfl)) (by rfl) (by rfl) (by rfl)) (fun ρ w hx hy => eqlH_run hk' HLk.out _ _ _ _ _ _ _ ρ w hx hy)
          · exact coreG_pick _ _ _ _ _ _ _ _ _ _ _ _ (by rfl) (by rfl) (wants_none) (known_core 11 54 _ _ (of_decide_eq_true (by rfl)) (by rfl) (by rfl) (by rfl)) (known_core 14 57 _ _ (of_decide_eq_true (by rfl)) (by rfl) (by rfl) (by rfl)) (known_const _) (by rfl)
          · exact coreG_move _ _ _ _ _ _ _ (by rfl) (by rfl) (wants_none) (known_core 15 58 _ _ (of_decide_eq_true (by rfl)) (by rfl) (by rfl) (by rfl))
          · exact coreG_move _ _ _ _ _ _ _ (by rfl) (by rfl) (wants_core 16 59 16 _ _ _ (by rfl) (by rfl) (by rfl) (known_core 16 59 _ _ (of_decide_eq_true (by rfl)) (by rfl) (by rfl) (by rfl)) _ (by rfl)) (known_old 6 _ (of_decide_eq_true (by rfl)) (by rfl))
          · exact coreG_move _ _ _ _ _ _ _ (by rfl) (by rfl) (wants_core 16 59 16 _ _ _ (by rfl) (by rfl) (by rfl) (known_core 16 59 _ _ (of_decide_eq_true (by rfl)) (by rfl) (by rfl) (by rfl)) _ (by rfl)) (known_old 0 _ (of_decide_eq_true (by rfl)) (by rfl))
          · exact core_pureAs _ (by rfl)
          · exact core_pureAs _ (by rfl)
          · exact coreG_bin _ _ _ _ _ _ _ _ _ _ _ _ _ (by rfl) (by rfl) (wants_core 16 59 16 _ _ _ (by rfl) (by rfl) (by rfl) (known_core 16 59 _ _ (of_decide_eq_true (by rfl)) (by rfl) (by rfl) (by rfl)) _ (by rfl)) (known_core 19 61 _ _ (of_decide_eq_true (by rfl)) (by rfl) (by rfl) (by rfl)) (known_core 20 63 _ _ (of_decide_eq_true (by rfl)) (by rfl) (by rfl) (by rfl)) (fun ρ w hx hy => eqlH_run hz HLz.out _ _ _ _ _ _ _ ρ w hx hy)
          · exact coreG_pick _ _ _ _ _ _ _ _ _ _ _ _ (by rfl) (by rfl) (wants_none) (known_core 16 59 _ _ (of_decide_eq_true (by rfl)) (by rfl) (by rfl) (by rfl)) (known_core 21 64 _ _ (of_decide_eq_true (by rfl)) (by rfl) (by rfl) (by rfl)) (known_const _) (by rfl)
        · refine all_cons ?_ (all_cons ?_ (all_cons ?_ (all_cons ?_ (all_cons ?_ (all_cons ?_ (all_cons ?_ (all_cons ?_ (all_cons ?_ (all_cons ?_ (all_cons ?_ (all_cons ?_ (all_cons ?_ (all_cons ?_ (all_cons ?_ (all_cons ?_ (all_cons ?_ (all_cons ?_ (all_cons ?_ (all_cons ?_ (all_cons ?_ (all_cons ?_ (all_cons ?_ (all_nil)))))))))))))))))))))))
          · exact core_stepAs _ (by rfl)
          · exact fun _ => coreG_callB _ 12 _ _ [.const (.slice none 0 0)] _ _ _ _ _ _ _ (by rfl) Tryd.func12 (by kernel_rfl) (by rfl) (by rfl) (wants_none) (.cons (known_const _) .nil) (fun u hb => C1.out u hb)
          · exact core_stepAs _ (by rfl)
          · exact core_stepAs _ (by rfl)
          · exact core_stepAs _ (by rfl)
          · exact core_stepAs _ (by rfl)
          · exact core_stepAs _ (by rfl)
          · exact core_stepAs _ (by rfl)
          · exact fun _ => coreG_callB _ 12 _ _ [.tmp 50] _ _ _ _ _ _ _ (by rfl) Tryd.func12 (by kernel_rfl) (by rfl) (by rfl) (wants_core 3 46 3 _ _ _ (by rfl) (by rfl) (by rfl) (known_core 3 46 _ _ (of_decide_eq_true (by rfl)) (by rfl) (by rfl) (by rfl)) _ (by rfl)) (.cons (known_core 7 50 _ _ (of_decide_eq_true (by rfl)) (by rfl) (by rfl) (by rfl)) .nil) (fun u hb => C2.out u hb)
          · exact core_stepAs _ (by rfl)
          · exact core_stepAs _ (by rfl)
          · exact core_stepAs _ (by rfl)
          · exact core_stepAs _ (by rfl)
          · exact core_stepAs _ (by rfl)
          · exact core_stepAs _ (by rfl)
          · exact core_stepAs _ (by rfl)
          · exact core_stepAs _ (by rfl)
          · exact core_stepAs _ (by rfl)
          · exact core_stepAs _ (by rfl)
          · exact fun _ => coreG_callB _ 10 _ _ [.tmp 60] _ _ _ _ _ _ _ (by rfl) Tryd.func10 (by kernel_rfl) (by rfl) (by rfl) (wants_core 16 59 16 _ _ _ (by rfl) (by rfl) (by rfl) (known_core 16 59 _ _ (of_decide_eq_true (by rfl)) (by rfl) (by rfl) (by rfl)) _ (by rfl)) (.cons (known_core 17 60 _ _ (of_decide_eq_true (by rfl)) (by rfl) (by rfl) (by rfl)) .nil) (fun u hb => C3.out u hb)
          · exact fun _ => coreG_callB _ 12 _ _ [.tmp 62] _ _ _ _ _ _ _ (by rfl) Tryd.func12 (by kernel_rfl) (by rfl) (by rfl) (wants_core 16 59 16 _ _ _ (by rfl) (by rfl) (by rfl) (known_core 16 59 _ _ (of_decide_eq_true (by rfl)) (by rfl) (by rfl) (by rfl)) _ (by rfl)) (.cons (known_core 18 62 _ _ (of_decide_eq_true (by rfl)) (by rfl) (by rfl) (by rfl)) .nil) (fun u hb => C4.out u hb)
          · exact core_stepAs _ (by rfl)
          · exact core_stepAs _ (by rfl)
        intro vs y9 hc
        have BZ := bel_tr B10.out hc.bel
        refine assign_one (i := 23) (.tmp 65) 4 _ _ _ (.bool true) (by kernel_rfl) (by rfl) (hc.at_ (of_decide_eq_true (by kernel_rfl)) (by rfl) 22 65 _ (.bool true) (by rfl) (by rfl) (by rfl)) (hc.bel) ?_
        refine wpAnyH_done (by kernel_rfl) ?_ _
        refine NoPanic.normal ?_
        generalize hA : Act.put (over _ _ vs) (some 4) (.bool true) = A
        have hA0 : A.tmps.getD 4 undef = .bool true := by rw [← hA]; exact put_at _ _ _ (by rw [over_size]; exact Nat.le_of_ble_eq_true rfl)
        have hAd : A.defers = [] := by rw [← hA, put_defers, over_defers]
        clear hA hc
        go_wp2_with fail
        refine bodyPost_ret (v := .bool true) (by simp [results, Tryd.results3, go_sem] at hA0 ⊢; simp [hA0]) hAd ⟨rfl, BZ⟩
  · have h20' : (20000 : Int) < (n : Int) := by omega
    go_enter Tryd.func3, Tryd.ntmps3
    go_wp2_with fail
    refine (alive_ok w HT.out).mono ?_
    rintro e w0 ⟨rfl, b0⟩
    have T0 := Lib.hid (HT.out.on b0)
    have B0 := Lib.hid b0
    clear b0
    go_wp2_with fail
    refine (alive_ok w0 T0.out).mono ?_
    rintro e w1 ⟨rfl, b1⟩
    have B1 := Lib.hid (bel_tr B0.out b1)
    clear b1
    go_wp2
    go_ret
    exact ⟨rfl, B1.out⟩
end Go.Proofs.YtkmjfaaelkmnkaaDoor
