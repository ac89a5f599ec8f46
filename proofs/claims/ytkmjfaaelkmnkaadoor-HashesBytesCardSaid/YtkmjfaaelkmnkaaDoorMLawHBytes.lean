/-
  HashesBytes: what is hashed is told apart by as what, by how many parts there are, and by each of them.
-/
import Derived.MapKept
import Derived.Laws.StructEq
import Derived.Test.YtkmjfaaelkmnkaaDoorMAlive6
import Derived.Test.YtkmjfaaelkmnkaaDoorMHBytes2
import Derived.Test.YtkmjfaaelkmnkaaDoorMLawHOf
import Derived.Test.YtkmjfaaelkmnkaaDoorMSameAny
namespace Go.Proofs.YtkmjfaaelkmnkaaDoor
open Go.RowKit
set_option linter.unusedSimpArgs false
set_option linter.unusedVariables false
set_option maxRecDepth 100000

section
variable {dst : Option Tmp} {ty : TypeId} {pos : String} {after : Array Edge} {gd : Option (Nat × Bool)} {x y : Operand} {ρ : Operand → Value} {w : World}
theorem idx2_run (g k : Nat) (hk : k < 2) (hx : ρ x = .pointer (some ⟨g, 0, none⟩)) (hy : ρ y = .int .i64 (k : Nat)) :
    (execOp ρ ⟨dst, .indexAddr 45 x y, ty, pos, after, gd⟩).run Tryd.prog w = .ok (.value (.pointer (some ⟨g, k, none⟩))) w := by
  have h1 : ¬ (2 : Int) ≤ (k : Int) := by omega
  have h2 : (k : Int) < 2 := by omega
  simp [execOp, hx, hy, go_sem, h1, h2]
theorem loadT_run (g k : Nat) (s : ByteArray) (hx : ρ x = .pointer (some ⟨g, k, none⟩)) (hc : w.cell? ⟨g, k, none⟩ = some (.string s)) :
    (execOp ρ ⟨dst, .load 9 x, ty, pos, after, gd⟩).run Tryd.prog w = .ok (.value (.string s)) w := by
  simp [execOp, hx, hc, go_sem]
end

set_option maxHeartbeats 4000000 in
theorem hashesBytes_walk (s0 s1 : ByteArray) (A : Option Addr) (n c : Nat) (RA : Nat → Option Addr) (RL RC : Nat → Nat) (RB : Nat → List Nat) (A' : Option Addr) (n' c' : Nat) (RA' : Nat → Option Addr) (RL' RC' : Nat → Nat) (RB' : Nat → List Nat) (w : World)
    (hs : s0.size ≤ 9223372036854775807) (hs' : s1.size ≤ 9223372036854775807) (hn0 : n ≤ 9223372036854775807) (hn0' : n' ≤ 9223372036854775807) (hR : Rows2 w A n c RA RL RC RB) (hR' : Rows2 w A' n' c' RA' RL' RC' RB') (T : Tabs w) :
    Calls Tryd.prog 5 #[.agg #[.string s0, .string s1], .slice A n c, .slice A' n' c'] w fun e w' => e = .returned (.bool true) ∧ Below w.heap.size w w' := by
  have HR := Lib.hid hR
  have HR' := Lib.hid hR'
  have HT := Lib.hid T
  have HG := Lib.hid (fun w (h : Rows2 w A n c RA RL RC RB) => great_ok s0 A n c RA RL RC RB w hs hn0 h)
  have HG' := Lib.hid (fun w (h : Rows2 w A' n' c' RA' RL' RC' RB') => great_ok s1 A' n' c' RA' RL' RC' RB' w hs' hn0' h)
  clear hR hR' T
  obtain ⟨b0, hb0⟩ : ∃ b, grt s0.size n RL = b := ⟨_, rfl⟩
  obtain ⟨b1, hb1⟩ : ∃ b, grt s1.size n' RL' = b := ⟨_, rfl⟩
  rw [hb0] at HG
  rw [hb1] at HG'
  have HB0 := Lib.hid hb0
  have HB1 := Lib.hid hb1
  clear hb0 hb1
  go_enter Tryd.func5, Tryd.ntmps5
  go_wp2_with (refine law_box (d := 3) (ty := 45) #[.string s0, .string s1] rfl ?_; intro w1 N1; have H1 := Lib.hid N1; clear N1)
  have B1 := Lib.hid H1.out.bel
  have A1 := Lib.hid H1.out.at_
  have R1 := Lib.hid (HR.out.below B1.out)
  have R1' := Lib.hid (HR'.out.below B1.out)
  have T1 := Lib.hid (HT.out.on B1.out)
  clear H1 HR HR' HT
  refine (Sf.alive6_ok w1 T1.out).mono ?_
  rintro e w2 ⟨rfl, b2⟩
  have B2 := Lib.hid (bel_tr B1.out b2)
  have A2 := Lib.hid (A1.out.on b2)
  have R2 := Lib.hid (R1.out.below b2)
  have R2' := Lib.hid (R1'.out.below b2)
  have T2 := Lib.hid (T1.out.on b2)
  clear b2 B1 A1 R1 R1' T1
  obtain ⟨g3, hg3⟩ : ∃ x, w.heap.size = x := ⟨_, rfl⟩
  rw [hg3] at A2 ⊢
  have GR := Lib.hid hg3
  clear hg3
  have k0 : w2.cell? ⟨g3, 0, none⟩ = some (.string s0) := A2.out.cell 0
  have k1 : w2.cell? ⟨g3, 1, none⟩ = some (.string s1) := A2.out.cell 1
  clear A2
  go_wp2_with fail
  refine (HG.out _ R2.out).mono ?_
  rintro e w3 ⟨rfl, rfl⟩
  cases b0 with
  | true =>
    go_wp2_with fail
    refine (Sf.alive6_ok _ T2.out).mono ?_
    rintro e wx ⟨rfl, bx⟩
    have BX := Lib.hid (bel_tr B2.out bx)
    clear bx
    go_wp2
    go_ret
    exact ⟨rfl, BX.out⟩
  | false =>
    go_wp2_with fail
    refine (HG'.out _ R2'.out).mono ?_
    rintro e w3 ⟨rfl, rfl⟩
    cases b1 with
    | true =>
      go_wp2_with fail
      refine (Sf.alive6_ok _ T2.out).mono ?_
      rintro e wx ⟨rfl, bx⟩
      have BX := Lib.hid (bel_tr B2.out bx)
      clear bx
      go_wp2
      go_ret
      exact ⟨rfl, BX.out⟩
    | false =>
      clear HG HG'
      obtain ⟨hs5, hn2, ht2⟩ := grt_no HB0.out
      obtain ⟨hs5', hn2', ht2'⟩ := grt_no HB1.out
      have HL := Lib.hid (fun j (hj : j < n) => (show RL j ≤ 20000 by have := tot_at RL n j hj; omega))
      have HL' := Lib.hid (fun j (hj : j < n') => (show RL' j ≤ 20000 by have := tot_at RL' n' j hj; omega))
      have HC : Hid ((cat (fun j => putB (RB j)) n).length ≤ 900000) := Lib.hid (by rw [cat_tot RB RL n R2.out.len]; omega)
      have HC' : Hid ((cat (fun j => putB (RB' j)) n').length ≤ 900000) := Lib.hid (by rw [cat_tot RB' RL' n' R2'.out.len]; omega)
      have HLN := Lib.hid (hbs_size (sb s0) n RB)
      have HLN' := Lib.hid (hbs_size (sb s1) n' RB')
      have HIJ := Lib.hid (hbs_inj (sb s0) (sb s1) n n' RB RB' (by rw [sb_len]; omega) (by rw [sb_len]; omega) (by omega) (by omega) (fun j hj => by have := HL.out j hj; rw [R2.out.len j hj]; omega) (fun j hj => by have := HL'.out j hj; rw [R2'.out.len j hj]; omega))
      have HBY := Lib.hid (hbs_lt (sb s0) n RB (sb_lt s0) R2.out.byte)
      clear HB0 HB1 ht2 ht2'
      go_wp2_with fail
      refine (lbytes_ok s0 A n c RA RL RC RB w2 (by omega) (by have := HC.out; omega) (by omega) R2.out).mono ?_
      rintro e w3 ⟨v3, rfl, o3, b3⟩
      have T3 := Lib.hid (T2.out.on b3)
      have B3 := Lib.hid (bel_tr B2.out b3)
      have R3 := Lib.hid (R2.out.below b3)
      have R3' := Lib.hid (R2'.out.below b3)
      have C0 := Lib.hid (cell_on b3 k0)
      have C1 := Lib.hid (cell_on b3 k1)
      obtain ⟨A7, c7, rfl, k71, k72⟩ := own_form o3
      have RD7 := Lib.hid (Rd.own o3)
      have K71 := Lib.hid k71
      have K72 : Hid (c7 ≤ 9223372036854775807) := Lib.hid (by unfold maxLen at k72; omega)
      clear o3 b3 k71 k72 T2 B2 R2 R2' k0 k1
      obtain ⟨l7, hl7⟩ : ∃ x, hbs (sb s0) n RB = x := ⟨_, rfl⟩
      rw [hl7] at RD7 HLN HIJ HBY K71 ⊢
      obtain ⟨n7, hn7⟩ : ∃ x, l7.length = x := ⟨_, rfl⟩
      rw [hn7] at RD7 HLN K71 ⊢
      have HL7 := Lib.hid hl7
      clear hl7 hn7
      have k0 := C0.out
      have k1 := C1.out
      go_wp2_with fail
      refine (lbytes_ok s1 A' n' c' RA' RL' RC' RB' w3 (by omega) (by have := HC'.out; omega) (by omega) R3'.out).mono ?_
      rintro e w4 ⟨v4, rfl, o4, b4⟩
      have T4 := Lib.hid (T3.out.on b4)
      have B4 := Lib.hid (bel_tr B3.out b4)
      have R4 := Lib.hid (R3.out.below b4)
      have R4' := Lib.hid (R3'.out.below b4)
      replace C0 := Lib.hid (cell_on b4 C0.out)
      replace C1 := Lib.hid (cell_on b4 C1.out)
      replace RD7 := Lib.hid (RD7.out.below b4)
      obtain ⟨A8, c8, rfl, k81, k82⟩ := own_form o4
      have RD8 := Lib.hid (Rd.own o4)
      clear o4 b4 k81 k82 T3 B3 R3 R3' k0 k1
      obtain ⟨l8, hl8⟩ : ∃ x, hbs (sb s1) n' RB' = x := ⟨_, rfl⟩
      rw [hl8] at RD8 HLN' HIJ ⊢
      obtain ⟨n8, hn8⟩ : ∃ x, l8.length = x := ⟨_, rfl⟩
      rw [hn8] at RD8 HLN' ⊢
      have HL8 := Lib.hid hl8
      clear hl8 hn8
      have k0 := C0.out
      have k1 := C1.out
      have HSR := Lib.hid (sameR_any A A' n n' c c' RA RA' RL RC RL' RC' RB RB' w4 (by omega) (by omega) R4.out R4'.out)
      obtain ⟨sr, hsr⟩ : ∃ x, eqR n n' RB RB' = x := ⟨_, rfl⟩
      rw [hsr] at HSR
      have HQ : Hid (eqL l7 l8 = (decide (s0 = s1) && sr)) := Lib.hid (by
        rw [← hsr]
        unfold eqL eqR
        rw [← Bool.decide_and, decide_eq_decide, HIJ.out]
        exact ⟨fun ⟨h1, h2⟩ => ⟨sb_inj h1, h2⟩, fun ⟨h1, h2⟩ => ⟨by rw [h1], h2⟩⟩)
      clear hsr HIJ
      by_cases hss : s0 = s1
      · subst hss
        rw [decide_eq_true rfl, Bool.true_and] at HQ
        go_wp2_with fail
        refine HSR.out.mono ?_
        rintro e w5 ⟨rfl, q5, rfl⟩
        have b5 := below_drewN (Below.refl w4.heap.size w4) q5
        generalize w4.drewN q5 = w5 at *
        have T5 := Lib.hid (T4.out.on b5)
        have B5 := Lib.hid (bel_tr B4.out b5)
        have R5 := Lib.hid (R4.out.below b5)
        have R5' := Lib.hid (R4'.out.below b5)
        replace C0 := Lib.hid (cell_on b5 C0.out)
        replace C1 := Lib.hid (cell_on b5 C1.out)
        replace RD7 := Lib.hid (RD7.out.below b5)
        replace RD8 := Lib.hid (RD8.out.below b5)
        clear b5 T4 B4 R4 R4' k0 k1
        have k0 := C0.out
        have k1 := C1.out
        have HOF := Lib.hid (hof_ok s0 A n c RA RL RC RB w5 (by omega) (by omega) (fun j hj => by have := HL.out j hj; omega) R5.out T5.out)
        rw [HL7.out] at HOF
        have H32 := Lib.hid (sha_len l7)
        obtain ⟨xs, hxs⟩ : ∃ x, sha l7 = x := ⟨_, rfl⟩
        rw [hxs] at HOF H32
        have HXS := Lib.hid hxs
        clear hxs
        go_wp2_with fail
        refine HOF.out.mono ?_
        rintro e w6 ⟨rfl, b6⟩
        have T6 := Lib.hid (T5.out.on b6)
        have B6 := Lib.hid (bel_tr B5.out b6)
        have R6' := Lib.hid (R5'.out.below b6)
        replace C1 := Lib.hid (cell_on b6 C1.out)
        replace RD7 := Lib.hid (RD7.out.below b6)
        replace RD8 := Lib.hid (RD8.out.below b6)
        clear b6 T5 B5 R5 R5' k0 k1 HOF C0
        go_wp2_with (first | (refine law_alloc (d := 10) (ty := 28) _ zero_hash ?_; intro w7 N7; have H7 := Lib.hid N7; clear N7) | (refine law_store (ty := 28) w6.heap.size 0 _ (bs (List.replicate 32 0)).toArray (bs xs) rfl rfl H7.out.at_ (by simp [bs, H32.out]) (by rw [size_hash, bs_len, H32.out]) (bs_one _) ?_; intro w9 P9; have b9 := H7.out.put P9; have E9 := Lib.hid (Put.hash xs H32.out P9); have T9 := Lib.hid (T6.out.on b9); have B9 := Lib.hid (bel_tr B6.out b9); have R9' := Lib.hid (R6'.out.below b9); replace C1 := Lib.hid (cell_on b9 C1.out); replace RD7 := Lib.hid (RD7.out.below b9); replace RD8 := Lib.hid (RD8.out.below b9); clear b9 P9 H7 T6 B6 R6'))
        generalize w6.heap.size = g10 at *
        have CS : Hid (∀ u, Below w9.heap.size w9 u → Calls Tryd.prog 23 #[.slice A7 n7 c7, .slice A8 n8 c8] u fun e w' => e = .returned (.bool (eqL l7 l8)) ∧ Below u.heap.size u w') := Lib.hid (fun u hb => (same_any A7 A8 n7 n8 c7 c8 l7 l8 u (by have := HLN.out; have := HC.out; rw [sb_len] at *; omega) (by have := HLN'.out; have := HC'.out; rw [sb_len] at *; omega) (RD7.out.below hb) (RD8.out.below hb)).mono fun e w' ⟨he, q, hq⟩ => ⟨he, by rw [hq]; exact below_drewN (Below.refl _ _) q⟩)
        rw [HQ.out] at CS
        have CO : Hid (∀ u, Below w9.heap.size w9 u → Calls Tryd.prog 12 #[.slice A7 n7 c7] u fun e w' => e = .returned (.agg (bs xs).toArray) ∧ Below u.heap.size u w') := Lib.hid (fun u hb => by rw [← HXS.out]; exact of_ok A7 n7 c7 l7 u (RD7.out.below hb) K71.out K72.out HBY.out (T9.out.on hb) (by have := HLN.out; have := HC.out; rw [sb_len] at *; omega))
        cases sr with
        | true =>
          have CH : Hid (∀ u, Below w9.heap.size w9 u → Calls Tryd.prog 17 #[.string s0, .slice A' n' c'] u fun e w' => e = .returned (.agg (bs xs).toArray) ∧ Below u.heap.size u w') := Lib.hid (fun u hb => by
            have h := hof_ok s0 A' n' c' RA' RL' RC' RB' u (by omega) (by omega) (fun j hj => by have := HL'.out j hj; omega) (R9'.out.below hb) (T9.out.on hb)
            rwa [HL8.out, ← of_decide_eq_true HQ.out, HXS.out] at h)
          clear HQ RD7 RD8 T9 R9' HLN HLN' HL HL' HC HC' HBY K71 K72 HL7 HL8
          go_wp2_with fail
          try simp only [List.append_eq, List.cons_append, List.nil_append]
          refine wp_region_noPanic ?_
          refine wp_region_held_drew (S := fun w' => Below w9.heap.size w9 w') (by kernel_rfl) ((Below.refl _ _).drew) (fun _ => ?_)
          refine wpAnyH_cores (fuel := 1) (⟨0, 48, [], Kind.val (.slice A7 n7 c7), true⟩ :: ⟨1, 49, [0], Kind.val (.slice A8 n8 c8), true⟩ :: ⟨3, 51, [1], Kind.val (.bool true), true⟩ :: ⟨2, 50, [0, 1, 2], Kind.val (.bool true), false⟩ :: ⟨4, 52, [2, 3], Kind.val (.bool true), true⟩ :: ⟨5, 53, [4], Kind.val (.bool true), true⟩ :: ⟨6, 54, [5], Kind.val (.agg (bs xs).toArray), true⟩ :: ⟨7, 55, [5, 6], Kind.val (.slice A7 n7 c7), true⟩ :: ⟨8, 56, [5, 7], Kind.val (.agg (bs xs).toArray), false⟩ :: ⟨9, 57, [5, 6, 8], Kind.val (.bool true), true⟩ :: ⟨10, 58, [5, 9], Kind.val (.bool true), true⟩ :: ⟨11, 59, [10], Kind.val (.bool true), true⟩ :: ⟨12, 60, [11], Kind.val (.bool true), true⟩ :: ⟨13, 61, [11, 12], Kind.val (.bool false), true⟩ :: ⟨14, 62, [11, 13], Kind.val (.bool false), true⟩ :: ⟨15, 63, [14], Kind.val (.agg (bs xs).toArray), true⟩ :: ⟨16, 64, [14, 15], Kind.val (.pointer (some ⟨g3, 1, none⟩)), true⟩ :: ⟨17, 65, [14, 16], Kind.val (.string s0), true⟩ :: ⟨18, 66, [14, 17], Kind.val (.slice A' n' c'), true⟩ :: ⟨19, 67, [14, 17, 18], Kind.val (.agg (bs xs).toArray), false⟩ :: ⟨20, 68, [14, 15, 19], Kind.val (.bool true), true⟩ :: ⟨21, 69, [11, 14, 20], Kind.val (.bool true), true⟩ :: ⟨22, 70, [11, 21], Kind.val (.bool true), true⟩ :: []) _ _ w9 _ ?_ ?_ ?_ ?_ ?_ ?_ ?_ ?_ ?_ ?_ ?_
          · rfl
          · kernel_rfl
          · exact of_decide_eq_true (by kernel_rfl)
          · exact all_cons ⟨_, by rfl, by rfl⟩ (all_cons ⟨_, by rfl, by rfl⟩ (all_cons ⟨_, by rfl, by rfl⟩ (all_cons ⟨_, by rfl, by rfl⟩ (all_cons ⟨_, by rfl, by rfl⟩ (all_cons ⟨_, by rfl, by rfl⟩ (all_cons ⟨_, by rfl, by rfl⟩ (all_cons ⟨_, by rfl, by rfl⟩ (all_cons ⟨_, by rfl, by rfl⟩ (all_cons ⟨_, by rfl, by rfl⟩ (all_cons ⟨_, by rfl, by rfl⟩ (all_cons ⟨_, by rfl, by rfl⟩ (all_cons ⟨_, by rfl, by rfl⟩ (all_cons ⟨_, by rfl, by rfl⟩ (all_cons ⟨_, by rfl, by rfl⟩ (all_cons ⟨_, by rfl, by rfl⟩ (all_cons ⟨_, by rfl, by rfl⟩ (all_cons ⟨_, by rfl, by rfl⟩ (all_cons ⟨_, by rfl, by rfl⟩ (all_cons ⟨_, by rfl, by rfl⟩ (all_cons ⟨_, by rfl, by rfl⟩ (all_cons ⟨_, by rfl, by rfl⟩ (all_cons ⟨_, by rfl, by rfl⟩ (all_nil)))))))))))))))))))))))
          · exact fun _ hb => hb
          · exact (Below.refl _ _).drew
          · kernel_rfl
          · exact fun _ _ _ _ _ h => h
          · refine all_cons ?_ (all_cons ?_ (all_cons ?_ (all_cons ?_ (all_cons ?_ (all_cons ?_ (all_cons ?_ (all_cons ?_ (all_cons ?_ (all_cons ?_ (all_cons ?_ (all_cons ?_ (all_cons ?_ (all_cons ?_ (all_cons ?_ (all_cons ?_ (all_cons ?_ (all_cons ?_ (all_cons ?_ (all_cons ?_ (all_cons ?_ (all_cons ?_ (all_cons ?_ (all_nil)))))))))))))))))))))))
            · exact coreG_move _ _ _ _ _ _ _ (by rfl) (by rfl) (wants_none) (known_old 7 _ (of_decide_eq_true (by rfl)) (by rfl))
            · exact coreG_move _ _ _ _ _ _ _ (by rfl) (by rfl) (wants_none) (known_old 8 _ (of_decide_eq_true (by rfl)) (by rfl))
            · exact coreG_move _ _ _ _ _ _ _ (by rfl) (by rfl) (wants_none) (known_old 9 _ (of_decide_eq_true (by rfl)) (by rfl))
            · exact core_pureAs _ (by rfl)
            · exact coreG_bin _ _ _ _ _ _ _ _ _ _ _ _ _ (by rfl) (by rfl) (wants_none) (known_core 3 50 _ _ (of_decide_eq_true (by rfl)) (by rfl) (by rfl) (by rfl)) (known_core 2 51 _ _ (of_decide_eq_true (by rfl)) (by rfl) (by rfl) (by rfl)) ((fun ρ w hx hy => by simp only [execOp, hx, hy]; simp [go_sem]))
            · exact coreG_move _ _ _ _ _ _ _ (by rfl) (by rfl) (wants_none) (known_core 4 52 _ _ (of_decide_eq_true (by rfl)) (by rfl) (by rfl) (by rfl))
            · exact coreG_held _ _ _ _ _ _ _ _ _ (by rfl) (by rfl) (wants_core 5 53 5 _ _ _ (by rfl) (by rfl) (by rfl) (known_core 5 53 _ _ (of_decide_eq_true (by rfl)) (by rfl) (by rfl) (by rfl)) _ (by rfl)) (known_old 10 _ (of_decide_eq_true (by rfl)) (by rfl)) (fun ρ w hx hS => loadH_run xs H32.out g10 _ _ _ _ _ _ ρ w hx (E9.out.on hS))
            · exact coreG_move _ _ _ _ _ _ _ (by rfl) (by rfl) (wants_core 5 53 5 _ _ _ (by rfl) (by rfl) (by rfl) (known_core 5 53 _ _ (of_decide_eq_true (by rfl)) (by rfl) (by rfl) (by rfl)) _ (by rfl)) (known_old 7 _ (of_decide_eq_true (by rfl)) (by rfl))
            · exact core_pureAs _ (by rfl)
            · exact coreG_bin _ _ _ _ _ _ _ _ _ _ _ _ _ (by rfl) (by rfl) (wants_core 5 53 5 _ _ _ (by rfl) (by rfl) (by rfl) (known_core 5 53 _ _ (of_decide_eq_true (by rfl)) (by rfl) (by rfl) (by rfl)) _ (by rfl)) (known_core 6 54 _ _ (of_decide_eq_true (by rfl)) (by rfl) (by rfl) (by rfl)) (known_core 8 56 _ _ (of_decide_eq_true (by rfl)) (by rfl) (by rfl) (by rfl)) (fun ρ w hx hy => eqlH_run xs H32.out _ _ _ _ _ _ _ ρ w hx hy)
            · exact coreG_pick _ _ _ _ _ _ _ _ _ _ _ _ (by rfl) (by rfl) (wants_none) (known_core 5 53 _ _ (of_decide_eq_true (by rfl)) (by rfl) (by rfl) (by rfl)) (known_core 9 57 _ _ (of_decide_eq_true (by rfl)) (by rfl) (by rfl) (by rfl)) (known_const _) (by rfl)
            · exact coreG_move _ _ _ _ _ _ _ (by rfl) (by rfl) (wants_none) (known_core 10 58 _ _ (of_decide_eq_true (by rfl)) (by rfl) (by rfl) (by rfl))
            · exact coreG_move _ _ _ _ _ _ _ (by rfl) (by rfl) (wants_core 11 59 11 _ _ _ (by rfl) (by rfl) (by rfl) (known_core 11 59 _ _ (of_decide_eq_true (by rfl)) (by rfl) (by rfl) (by rfl)) _ (by rfl)) (known_old 9 _ (of_decide_eq_true (by rfl)) (by rfl))
            · exact coreG_un _ _ _ _ _ _ _ _ _ _ (by rfl) (by rfl) (wants_core 11 59 11 _ _ _ (by rfl) (by rfl) (by rfl) (known_core 11 59 _ _ (of_decide_eq_true (by rfl)) (by rfl) (by rfl) (by rfl)) _ (by rfl)) (known_core 12 60 _ _ (of_decide_eq_true (by rfl)) (by rfl) (by rfl) (by rfl)) (fun ρ w hx => by simp only [execOp, hx]; simp [go_sem])
            · exact coreG_move _ _ _ _ _ _ _ (by rfl) (by rfl) (wants_core 11 59 11 _ _ _ (by rfl) (by rfl) (by rfl) (known_core 11 59 _ _ (of_decide_eq_true (by rfl)) (by rfl) (by rfl) (by rfl)) _ (by rfl)) (known_core 13 61 _ _ (of_decide_eq_true (by rfl)) (by rfl) (by rfl) (by rfl))
            · exact coreG_held _ _ _ _ _ _ _ _ _ (by rfl) (by rfl) (wants_core 14 62 14 _ _ _ (by rfl) (by rfl) (by rfl) (known_core 14 62 _ _ (of_decide_eq_true (by rfl)) (by rfl) (by rfl) (by rfl)) _ (by rfl)) (known_old 10 _ (of_decide_eq_true (by rfl)) (by rfl)) (fun ρ w hx hS => loadH_run xs H32.out g10 _ _ _ _ _ _ ρ w hx (E9.out.on hS))
            · exact coreG_held2 _ _ _ _ _ _ _ _ _ _ _ (by rfl) (by rfl) (wants_core 14 62 14 _ _ _ (by rfl) (by rfl) (by rfl) (known_core 14 62 _ _ (of_decide_eq_true (by rfl)) (by rfl) (by rfl) (by rfl)) _ (by rfl)) (known_old 3 _ (of_decide_eq_true (by rfl)) (by rfl)) (known_const _) (fun ρ w hx hy _ => idx2_run g3 1 (by omega) hx hy)
            · exact coreG_held _ _ _ _ _ _ _ _ _ (by rfl) (by rfl) (wants_core 14 62 14 _ _ _ (by rfl) (by rfl) (by rfl) (known_core 14 62 _ _ (of_decide_eq_true (by rfl)) (by rfl) (by rfl) (by rfl)) _ (by rfl)) (known_core 16 64 _ _ (of_decide_eq_true (by rfl)) (by rfl) (by rfl) (by rfl)) (fun ρ w hx hS => loadT_run g3 1 s0 hx (cell_on hS C1.out))
            · exact coreG_move _ _ _ _ _ _ _ (by rfl) (by rfl) (wants_core 14 62 14 _ _ _ (by rfl) (by rfl) (by rfl) (known_core 14 62 _ _ (of_decide_eq_true (by rfl)) (by rfl) (by rfl) (by rfl)) _ (by rfl)) (known_old 2 _ (of_decide_eq_true (by rfl)) (by rfl))
            · exact core_pureAs _ (by rfl)
            · exact coreG_bin _ _ _ _ _ _ _ _ _ _ _ _ _ (by rfl) (by rfl) (wants_core 14 62 14 _ _ _ (by rfl) (by rfl) (by rfl) (known_core 14 62 _ _ (of_decide_eq_true (by rfl)) (by rfl) (by rfl) (by rfl)) _ (by rfl)) (known_core 15 63 _ _ (of_decide_eq_true (by rfl)) (by rfl) (by rfl) (by rfl)) (known_core 19 67 _ _ (of_decide_eq_true (by rfl)) (by rfl) (by rfl) (by rfl)) (fun ρ w hx hy => eqlH_run xs H32.out _ _ _ _ _ _ _ ρ w hx hy)
            · exact coreG_pick _ _ _ _ _ _ _ _ _ _ _ _ (by rfl) (by rfl) (wants_core 11 59 11 _ _ _ (by rfl) (by rfl) (by rfl) (known_core 11 59 _ _ (of_decide_eq_true (by rfl)) (by rfl) (by rfl) (by rfl)) _ (by rfl)) (known_core 14 62 _ _ (of_decide_eq_true (by rfl)) (by rfl) (by rfl) (by rfl)) (known_const _) (known_core 20 68 _ _ (of_decide_eq_true (by rfl)) (by rfl) (by rfl) (by rfl)) (by rfl)
            · exact coreG_pick _ _ _ _ _ _ _ _ _ _ _ _ (by rfl) (by rfl) (wants_none) (known_core 11 59 _ _ (of_decide_eq_true (by rfl)) (by rfl) (by rfl) (by rfl)) (known_core 21 69 _ _ (of_decide_eq_true (by rfl)) (by rfl) (by rfl) (by rfl)) (known_const _) (by rfl)
          · refine all_cons ?_ (all_cons ?_ (all_cons ?_ (all_cons ?_ (all_cons ?_ (all_cons ?_ (all_cons ?_ (all_cons ?_ (all_cons ?_ (all_cons ?_ (all_cons ?_ (all_cons ?_ (all_cons ?_ (all_cons ?_ (all_cons ?_ (all_cons ?_ (all_cons ?_ (all_cons ?_ (all_cons ?_ (all_cons ?_ (all_cons ?_ (all_cons ?_ (all_cons ?_ (all_nil)))))))))))))))))))))))
            · exact core_stepAs _ (by rfl)
            · exact core_stepAs _ (by rfl)
            · exact core_stepAs _ (by rfl)
            · exact fun _ => coreG_callB _ 23 _ _ [.tmp 48, .tmp 49] _ _ _ _ _ _ _ (by rfl) Tryd.func23 (by kernel_rfl) (by rfl) (by rfl) (wants_none) (.cons (known_core 0 48 _ _ (of_decide_eq_true (by rfl)) (by rfl) (by rfl) (by rfl)) (.cons (known_core 1 49 _ _ (of_decide_eq_true (by rfl)) (by rfl) (by rfl) (by rfl)) .nil)) (fun u hb => CS.out u hb)
            · exact core_stepAs _ (by rfl)
            · exact core_stepAs _ (by rfl)
            · exact core_stepAs _ (by rfl)
            · exact core_stepAs _ (by rfl)
            · exact fun _ => coreG_callB _ 12 _ _ [.tmp 55] _ _ _ _ _ _ _ (by rfl) Tryd.func12 (by kernel_rfl) (by rfl) (by rfl) (wants_core 5 53 5 _ _ _ (by rfl) (by rfl) (by rfl) (known_core 5 53 _ _ (of_decide_eq_true (by rfl)) (by rfl) (by rfl) (by rfl)) _ (by rfl)) (.cons (known_core 7 55 _ _ (of_decide_eq_true (by rfl)) (by rfl) (by rfl) (by rfl)) .nil) (fun u hb => CO.out u hb)
            · exact core_stepAs _ (by rfl)
            · exact core_stepAs _ (by rfl)
            · exact core_stepAs _ (by rfl)
            · exact core_stepAs _ (by rfl)
            · exact core_stepAs _ (by rfl)
            · exact core_stepAs _ (by rfl)
            · exact core_stepAs _ (by rfl)
            · exact core_stepAs _ (by rfl)
            · exact core_stepAs _ (by rfl)
            · exact core_stepAs _ (by rfl)
            · exact fun _ => coreG_callB _ 17 _ _ [.tmp 65, .tmp 66] _ _ _ _ _ _ _ (by rfl) Tryd.func17 (by kernel_rfl) (by rfl) (by rfl) (wants_core 14 62 14 _ _ _ (by rfl) (by rfl) (by rfl) (known_core 14 62 _ _ (of_decide_eq_true (by rfl)) (by rfl) (by rfl) (by rfl)) _ (by rfl)) (.cons (known_core 17 65 _ _ (of_decide_eq_true (by rfl)) (by rfl) (by rfl) (by rfl)) (.cons (known_core 18 66 _ _ (of_decide_eq_true (by rfl)) (by rfl) (by rfl) (by rfl)) .nil)) (fun u hb => CH.out u hb)
            · exact core_stepAs _ (by rfl)
            · exact core_stepAs _ (by rfl)
            · exact core_stepAs _ (by rfl)
          intro vs y9 hc
          have BZ := bel_tr B9.out hc.bel
          refine assign_one (i := 23) (.tmp 70) 6 _ _ _ (.bool true) (by kernel_rfl) (by rfl) (hc.at_ (of_decide_eq_true (by kernel_rfl)) (by rfl) 22 70 _ (.bool true) (by rfl) (by rfl) (by rfl)) (hc.bel) ?_
          refine wpAnyH_done (by kernel_rfl) ?_ _
          refine NoPanic.normal ?_
          generalize hA : Act.put (over _ _ vs) (some 6) (.bool true) = A
          have hA0 : A.tmps.getD 6 undef = .bool true := by rw [← hA]; exact put_at _ _ _ (by rw [over_size]; exact Nat.le_of_ble_eq_true rfl)
          have hAd : A.defers = [] := by rw [← hA, put_defers, over_defers] <;> rfl
          clear hA hc
          go_wp2_with fail
          refine bodyPost_ret (v := .bool true) (by simp [results, Tryd.results5, go_sem] at hA0 ⊢; simp [hA0]) hAd ⟨rfl, BZ⟩
        | false =>
          clear HQ RD7 RD8 T9 R9' HLN HLN' HL HL' HC HC' HBY K71 K72 HL7 HL8
          go_wp2_with fail
          try simp only [List.append_eq, List.cons_append, List.nil_append]
          refine wp_region_noPanic ?_
          refine wp_region_held_drew (S := fun w' => Below w9.heap.size w9 w') (by kernel_rfl) ((Below.refl _ _).drew) (fun _ => ?_)
          refine wpAnyH_cores (fuel := 1) (⟨0, 48, [], Kind.val (.slice A7 n7 c7), true⟩ :: ⟨1, 49, [0], Kind.val (.slice A8 n8 c8), true⟩ :: ⟨3, 51, [1], Kind.val (.bool false), true⟩ :: ⟨2, 50, [0, 1, 2], Kind.val (.bool false), false⟩ :: ⟨4, 52, [2, 3], Kind.val (.bool true), true⟩ :: ⟨5, 53, [4], Kind.val (.bool true), true⟩ :: ⟨6, 54, [5], Kind.val (.agg (bs xs).toArray), true⟩ :: ⟨7, 55, [5, 6], Kind.val (.slice A7 n7 c7), true⟩ :: ⟨8, 56, [5, 7], Kind.val (.agg (bs xs).toArray), false⟩ :: ⟨9, 57, [5, 6, 8], Kind.val (.bool true), true⟩ :: ⟨10, 58, [5, 9], Kind.val (.bool true), true⟩ :: ⟨11, 59, [10], Kind.val (.bool true), true⟩ :: ⟨12, 60, [11], Kind.val (.bool false), true⟩ :: ⟨13, 61, [11, 12], Kind.val (.bool true), true⟩ :: ⟨14, 62, [11, 13], Kind.val (.bool true), true⟩ :: ⟨15, 63, [14], Kind.val (undef), true⟩ :: ⟨16, 64, [14, 15], Kind.val (undef), true⟩ :: ⟨17, 65, [14, 16], Kind.val (undef), true⟩ :: ⟨18, 66, [14, 17], Kind.val (undef), true⟩ :: ⟨19, 67, [14, 17, 18], Kind.val (undef), true⟩ :: ⟨20, 68, [14, 15, 19], Kind.val (undef), true⟩ :: ⟨21, 69, [11, 14, 20], Kind.val (.bool true), true⟩ :: ⟨22, 70, [11, 21], Kind.val (.bool true), true⟩ :: []) _ _ w9 _ ?_ ?_ ?_ ?_ ?_ ?_ ?_ ?_ ?_ ?_ ?_
          · rfl
          · kernel_rfl
          · exact of_decide_eq_true (by kernel_rfl)
          · exact all_cons ⟨_, by rfl, by rfl⟩ (all_cons ⟨_, by rfl, by rfl⟩ (all_cons ⟨_, by rfl, by rfl⟩ (all_cons ⟨_, by rfl, by rfl⟩ (all_cons ⟨_, by rfl, by rfl⟩ (all_cons ⟨_, by rfl, by rfl⟩ (all_cons ⟨_, by rfl, by rfl⟩ (all_cons ⟨_, by rfl, by rfl⟩ (all_cons ⟨_, by rfl, by rfl⟩ (all_cons ⟨_, by rfl, by rfl⟩ (all_cons ⟨_, by rfl, by rfl⟩ (all_cons ⟨_, by rfl, by rfl⟩ (all_cons ⟨_, by rfl, by rfl⟩ (all_cons ⟨_, by rfl, by rfl⟩ (all_cons ⟨_, by rfl, by rfl⟩ (all_cons ⟨_, by rfl, by rfl⟩ (all_cons ⟨_, by rfl, by rfl⟩ (all_cons ⟨_, by rfl, by rfl⟩ (all_cons ⟨_, by rfl, by rfl⟩ (all_cons ⟨_, by rfl, by rfl⟩ (all_cons ⟨_, by rfl, by rfl⟩ (all_cons ⟨_, by rfl, by rfl⟩ (all_cons ⟨_, by rfl, by rfl⟩ (all_nil)))))))))))))))))))))))
          · exact fun _ hb => hb
          · exact (Below.refl _ _).drew
          · kernel_rfl
          · exact fun _ _ _ _ _ h => h
          · refine all_cons ?_ (all_cons ?_ (all_cons ?_ (all_cons ?_ (all_cons ?_ (all_cons ?_ (all_cons ?_ (all_cons ?_ (all_cons ?_ (all_cons ?_ (all_cons ?_ (all_cons ?_ (all_cons ?_ (all_cons ?_ (all_cons ?_ (all_cons ?_ (all_cons ?_ (all_cons ?_ (all_cons ?_ (all_cons ?_ (all_cons ?_ (all_cons ?_ (all_cons ?_ (all_nil)))))))))))))))))))))))
            · exact coreG_move _ _ _ _ _ _ _ (by rfl) (by rfl) (wants_none) (known_old 7 _ (of_decide_eq_true (by rfl)) (by rfl))
            · exact coreG_move _ _ _ _ _ _ _ (by rfl) (by rfl) (wants_none) (known_old 8 _ (of_decide_eq_true (by rfl)) (by rfl))
            · exact coreG_move _ _ _ _ _ _ _ (by rfl) (by rfl) (wants_none) (known_old 9 _ (of_decide_eq_true (by rfl)) (by rfl))
            · exact core_pureAs _ (by rfl)
            · exact coreG_bin _ _ _ _ _ _ _ _ _ _ _ _ _ (by rfl) (by rfl) (wants_none) (known_core 3 50 _ _ (of_decide_eq_true (by rfl)) (by rfl) (by rfl) (by rfl)) (known_core 2 51 _ _ (of_decide_eq_true (by rfl)) (by rfl) (by rfl) (by rfl)) ((fun ρ w hx hy => by simp only [execOp, hx, hy]; simp [go_sem]))
            · exact coreG_move _ _ _ _ _ _ _ (by rfl) (by rfl) (wants_none) (known_core 4 52 _ _ (of_decide_eq_true (by rfl)) (by rfl) (by rfl) (by rfl))
            · exact coreG_held _ _ _ _ _ _ _ _ _ (by rfl) (by rfl) (wants_core 5 53 5 _ _ _ (by rfl) (by rfl) (by rfl) (known_core 5 53 _ _ (of_decide_eq_true (by rfl)) (by rfl) (by rfl) (by rfl)) _ (by rfl)) (known_old 10 _ (of_decide_eq_true (by rfl)) (by rfl)) (fun ρ w hx hS => loadH_run xs H32.out g10 _ _ _ _ _ _ ρ w hx (E9.out.on hS))
            · exact coreG_move _ _ _ _ _ _ _ (by rfl) (by rfl) (wants_core 5 53 5 _ _ _ (by rfl) (by rfl) (by rfl) (known_core 5 53 _ _ (of_decide_eq_true (by rfl)) (by rfl) (by rfl) (by rfl)) _ (by rfl)) (known_old 7 _ (of_decide_eq_true (by rfl)) (by rfl))
            · exact core_pureAs _ (by rfl)
            · exact coreG_bin _ _ _ _ _ _ _ _ _ _ _ _ _ (by rfl) (by rfl) (wants_core 5 53 5 _ _ _ (by rfl) (by rfl) (by rfl) (known_core 5 53 _ _ (of_decide_eq_true (by rfl)) (by rfl) (by rfl) (by rfl)) _ (by rfl)) (known_core 6 54 _ _ (of_decide_eq_true (by rfl)) (by rfl) (by rfl) (by rfl)) (known_core 8 56 _ _ (of_decide_eq_true (by rfl)) (by rfl) (by rfl) (by rfl)) (fun ρ w hx hy => eqlH_run xs H32.out _ _ _ _ _ _ _ ρ w hx hy)
            · exact coreG_pick _ _ _ _ _ _ _ _ _ _ _ _ (by rfl) (by rfl) (wants_none) (known_core 5 53 _ _ (of_decide_eq_true (by rfl)) (by rfl) (by rfl) (by rfl)) (known_core 9 57 _ _ (of_decide_eq_true (by rfl)) (by rfl) (by rfl) (by rfl)) (known_const _) (by rfl)
            · exact coreG_move _ _ _ _ _ _ _ (by rfl) (by rfl) (wants_none) (known_core 10 58 _ _ (of_decide_eq_true (by rfl)) (by rfl) (by rfl) (by rfl))
            · exact coreG_move _ _ _ _ _ _ _ (by rfl) (by rfl) (wants_core 11 59 11 _ _ _ (by rfl) (by rfl) (by rfl) (known_core 11 59 _ _ (of_decide_eq_true (by rfl)) (by rfl) (by rfl) (by rfl)) _ (by rfl)) (known_old 9 _ (of_decide_eq_true (by rfl)) (by rfl))
            · exact coreG_un _ _ _ _ _ _ _ _ _ _ (by rfl) (by rfl) (wants_core 11 59 11 _ _ _ (by rfl) (by rfl) (by rfl) (known_core 11 59 _ _ (of_decide_eq_true (by rfl)) (by rfl) (by rfl) (by rfl)) _ (by rfl)) (known_core 12 60 _ _ (of_decide_eq_true (by rfl)) (by rfl) (by rfl) (by rfl)) (fun ρ w hx => by simp only [execOp, hx]; simp [go_sem])
            · exact coreG_move _ _ _ _ _ _ _ (by rfl) (by rfl) (wants_core 11 59 11 _ _ _ (by rfl) (by rfl) (by rfl) (known_core 11 59 _ _ (of_decide_eq_true (by rfl)) (by rfl) (by rfl) (by rfl)) _ (by rfl)) (known_core 13 61 _ _ (of_decide_eq_true (by rfl)) (by rfl) (by rfl) (by rfl))
            · exact coreG_skip _ _ _ _ _ _ (by rfl) (by rfl) (wants_core 14 62 14 _ _ _ (by rfl) (by rfl) (by rfl) (known_core 14 62 _ _ (of_decide_eq_true (by rfl)) (by rfl) (by rfl) (by rfl)) _ (by rfl))
            · exact coreG_skip _ _ _ _ _ _ (by rfl) (by rfl) (wants_core 14 62 14 _ _ _ (by rfl) (by rfl) (by rfl) (known_core 14 62 _ _ (of_decide_eq_true (by rfl)) (by rfl) (by rfl) (by rfl)) _ (by rfl))
            · exact coreG_skip _ _ _ _ _ _ (by rfl) (by rfl) (wants_core 14 62 14 _ _ _ (by rfl) (by rfl) (by rfl) (known_core 14 62 _ _ (of_decide_eq_true (by rfl)) (by rfl) (by rfl) (by rfl)) _ (by rfl))
            · exact coreG_skip _ _ _ _ _ _ (by rfl) (by rfl) (wants_core 14 62 14 _ _ _ (by rfl) (by rfl) (by rfl) (known_core 14 62 _ _ (of_decide_eq_true (by rfl)) (by rfl) (by rfl) (by rfl)) _ (by rfl))
            · exact coreG_skip _ _ _ _ _ _ (by rfl) (by rfl) (wants_core 14 62 14 _ _ _ (by rfl) (by rfl) (by rfl) (known_core 14 62 _ _ (of_decide_eq_true (by rfl)) (by rfl) (by rfl) (by rfl)) _ (by rfl))
            · exact coreG_skip _ _ _ _ _ _ (by rfl) (by rfl) (wants_core 14 62 14 _ _ _ (by rfl) (by rfl) (by rfl) (known_core 14 62 _ _ (of_decide_eq_true (by rfl)) (by rfl) (by rfl) (by rfl)) _ (by rfl))
            · exact coreG_pick _ _ _ _ _ _ _ _ _ _ _ _ (by rfl) (by rfl) (wants_core 11 59 11 _ _ _ (by rfl) (by rfl) (by rfl) (known_core 11 59 _ _ (of_decide_eq_true (by rfl)) (by rfl) (by rfl) (by rfl)) _ (by rfl)) (known_core 14 62 _ _ (of_decide_eq_true (by rfl)) (by rfl) (by rfl) (by rfl)) (known_const _) (known_core 20 68 _ _ (of_decide_eq_true (by rfl)) (by rfl) (by rfl) (by rfl)) (by rfl)
            · exact coreG_pick _ _ _ _ _ _ _ _ _ _ _ _ (by rfl) (by rfl) (wants_none) (known_core 11 59 _ _ (of_decide_eq_true (by rfl)) (by rfl) (by rfl) (by rfl)) (known_core 21 69 _ _ (of_decide_eq_true (by rfl)) (by rfl) (by rfl) (by rfl)) (known_const _) (by rfl)
          · refine all_cons ?_ (all_cons ?_ (all_cons ?_ (all_cons ?_ (all_cons ?_ (all_cons ?_ (all_cons ?_ (all_cons ?_ (all_cons ?_ (all_cons ?_ (all_cons ?_ (all_cons ?_ (all_cons ?_ (all_cons ?_ (all_cons ?_ (all_cons ?_ (all_cons ?_ (all_cons ?_ (all_cons ?_ (all_cons ?_ (all_cons ?_ (all_cons ?_ (all_cons ?_ (all_nil)))))))))))))))))))))))
            · exact core_stepAs _ (by rfl)
            · exact core_stepAs _ (by rfl)
            · exact core_stepAs _ (by rfl)
            · exact fun _ => coreG_callB _ 23 _ _ [.tmp 48, .tmp 49] _ _ _ _ _ _ _ (by rfl) Tryd.func23 (by kernel_rfl) (by rfl) (by rfl) (wants_none) (.cons (known_core 0 48 _ _ (of_decide_eq_true (by rfl)) (by rfl) (by rfl) (by rfl)) (.cons (known_core 1 49 _ _ (of_decide_eq_true (by rfl)) (by rfl) (by rfl) (by rfl)) .nil)) (fun u hb => CS.out u hb)
            · exact core_stepAs _ (by rfl)
            · exact core_stepAs _ (by rfl)
            · exact core_stepAs _ (by rfl)
            · exact core_stepAs _ (by rfl)
            · exact fun _ => coreG_callB _ 12 _ _ [.tmp 55] _ _ _ _ _ _ _ (by rfl) Tryd.func12 (by kernel_rfl) (by rfl) (by rfl) (wants_core 5 53 5 _ _ _ (by rfl) (by rfl) (by rfl) (known_core 5 53 _ _ (of_decide_eq_true (by rfl)) (by rfl) (by rfl) (by rfl)) _ (by rfl)) (.cons (known_core 7 55 _ _ (of_decide_eq_true (by rfl)) (by rfl) (by rfl) (by rfl)) .nil) (fun u hb => CO.out u hb)
            · exact core_stepAs _ (by rfl)
            · exact core_stepAs _ (by rfl)
            · exact core_stepAs _ (by rfl)
            · exact core_stepAs _ (by rfl)
            · exact core_stepAs _ (by rfl)
            · exact core_stepAs _ (by rfl)
            · exact core_stepAs _ (by rfl)
            · exact core_stepAs _ (by rfl)
            · exact core_stepAs _ (by rfl)
            · exact core_stepAs _ (by rfl)
            · exact core_stepAs _ (by rfl)
            · exact core_stepAs _ (by rfl)
            · exact core_stepAs _ (by rfl)
            · exact core_stepAs _ (by rfl)
          intro vs y9 hc
          have BZ := bel_tr B9.out hc.bel
          refine assign_one (i := 23) (.tmp 70) 6 _ _ _ (.bool true) (by kernel_rfl) (by rfl) (hc.at_ (of_decide_eq_true (by kernel_rfl)) (by rfl) 22 70 _ (.bool true) (by rfl) (by rfl) (by rfl)) (hc.bel) ?_
          refine wpAnyH_done (by kernel_rfl) ?_ _
          refine NoPanic.normal ?_
          generalize hA : Act.put (over _ _ vs) (some 6) (.bool true) = A
          have hA0 : A.tmps.getD 6 undef = .bool true := by rw [← hA]; exact put_at _ _ _ (by rw [over_size]; exact Nat.le_of_ble_eq_true rfl)
          have hAd : A.defers = [] := by rw [← hA, put_defers, over_defers] <;> rfl
          clear hA hc
          go_wp2_with fail
          refine bodyPost_ret (v := .bool true) (by simp [results, Tryd.results5, go_sem] at hA0 ⊢; simp [hA0]) hAd ⟨rfl, BZ⟩
      · rw [decide_eq_false hss, Bool.false_and] at HQ
        have hss1 : (s0 == s1) = false := by rw [Bool.eq_false_iff]; exact fun h => hss ((Go.MapKept.bytes_beq _ _).1 h)
        have hss3 : (s0.toList == s1.toList) = false := by rw [← Go.beq_toListBytes]; exact hss1
        have hss4 : ¬ s0.toList = s1.toList := by simpa using hss3
        clear hss HSR sr
        have b5 := Below.refl w4.heap.size w4
        have T5 := Lib.hid (T4.out.on b5)
        have B5 := Lib.hid (bel_tr B4.out b5)
        have R5 := Lib.hid (R4.out.below b5)
        have R5' := Lib.hid (R4'.out.below b5)
        replace C0 := Lib.hid (cell_on b5 C0.out)
        replace C1 := Lib.hid (cell_on b5 C1.out)
        replace RD7 := Lib.hid (RD7.out.below b5)
        replace RD8 := Lib.hid (RD8.out.below b5)
        clear b5 T4 B4 R4 R4' k0 k1
        have k0 := C0.out
        have k1 := C1.out
        have HOF := Lib.hid (hof_ok s0 A n c RA RL RC RB w4 (by omega) (by omega) (fun j hj => by have := HL.out j hj; omega) R5.out T5.out)
        rw [HL7.out] at HOF
        have H32 := Lib.hid (sha_len l7)
        obtain ⟨xs, hxs⟩ : ∃ x, sha l7 = x := ⟨_, rfl⟩
        rw [hxs] at HOF H32
        have HXS := Lib.hid hxs
        clear hxs
        go_wp2_with fail
        refine HOF.out.mono ?_
        rintro e w6 ⟨rfl, b6⟩
        have T6 := Lib.hid (T5.out.on b6)
        have B6 := Lib.hid (bel_tr B5.out b6)
        have R6' := Lib.hid (R5'.out.below b6)
        replace C1 := Lib.hid (cell_on b6 C1.out)
        replace RD7 := Lib.hid (RD7.out.below b6)
        replace RD8 := Lib.hid (RD8.out.below b6)
        clear b6 T5 B5 R5 R5' k0 k1 HOF C0
        go_wp2_with (first | (refine law_alloc (d := 10) (ty := 28) _ zero_hash ?_; intro w7 N7; have H7 := Lib.hid N7; clear N7) | (refine law_store (ty := 28) w6.heap.size 0 _ (bs (List.replicate 32 0)).toArray (bs xs) rfl rfl H7.out.at_ (by simp [bs, H32.out]) (by rw [size_hash, bs_len, H32.out]) (bs_one _) ?_; intro w9 P9; have b9 := H7.out.put P9; have E9 := Lib.hid (Put.hash xs H32.out P9); have T9 := Lib.hid (T6.out.on b9); have B9 := Lib.hid (bel_tr B6.out b9); have R9' := Lib.hid (R6'.out.below b9); replace C1 := Lib.hid (cell_on b9 C1.out); replace RD7 := Lib.hid (RD7.out.below b9); replace RD8 := Lib.hid (RD8.out.below b9); clear b9 P9 H7 T6 B6 R6'))
        generalize w6.heap.size = g10 at *
        have CS : Hid (∀ u, Below w9.heap.size w9 u → Calls Tryd.prog 23 #[.slice A7 n7 c7, .slice A8 n8 c8] u fun e w' => e = .returned (.bool (eqL l7 l8)) ∧ Below u.heap.size u w') := Lib.hid (fun u hb => (same_any A7 A8 n7 n8 c7 c8 l7 l8 u (by have := HLN.out; have := HC.out; rw [sb_len] at *; omega) (by have := HLN'.out; have := HC'.out; rw [sb_len] at *; omega) (RD7.out.below hb) (RD8.out.below hb)).mono fun e w' ⟨he, q, hq⟩ => ⟨he, by rw [hq]; exact below_drewN (Below.refl _ _) q⟩)
        rw [HQ.out] at CS
        have CO : Hid (∀ u, Below w9.heap.size w9 u → Calls Tryd.prog 12 #[.slice A7 n7 c7] u fun e w' => e = .returned (.agg (bs xs).toArray) ∧ Below u.heap.size u w') := Lib.hid (fun u hb => by rw [← HXS.out]; exact of_ok A7 n7 c7 l7 u (RD7.out.below hb) K71.out K72.out HBY.out (T9.out.on hb) (by have := HLN.out; have := HC.out; rw [sb_len] at *; omega))
        clear HQ RD7 RD8 T9 R9' HLN HLN' HL HL' HC HC' HBY K71 K72 HL7 HL8
        go_wp2_with fail
        try simp only [List.append_eq, List.cons_append, List.nil_append]
        refine wp_region_noPanic ?_
        refine wp_region_held_drew (S := fun w' => Below w9.heap.size w9 w') (by kernel_rfl) ((Below.refl _ _).drew) (fun _ => ?_)
        refine wpAnyH_cores (fuel := 1) (⟨0, 48, [], Kind.val (.slice A7 n7 c7), true⟩ :: ⟨1, 49, [0], Kind.val (.slice A8 n8 c8), true⟩ :: ⟨3, 51, [1], Kind.val (.bool false), true⟩ :: ⟨2, 50, [0, 1, 2], Kind.val (.bool false), false⟩ :: ⟨4, 52, [2, 3], Kind.val (.bool true), true⟩ :: ⟨5, 53, [4], Kind.val (.bool true), true⟩ :: ⟨6, 54, [5], Kind.val (.agg (bs xs).toArray), true⟩ :: ⟨7, 55, [5, 6], Kind.val (.slice A7 n7 c7), true⟩ :: ⟨8, 56, [5, 7], Kind.val (.agg (bs xs).toArray), false⟩ :: ⟨9, 57, [5, 6, 8], Kind.val (.bool true), true⟩ :: ⟨10, 58, [5, 9], Kind.val (.bool true), true⟩ :: ⟨11, 59, [10], Kind.val (.bool true), true⟩ :: ⟨12, 60, [11], Kind.val (.bool false), true⟩ :: ⟨13, 61, [11, 12], Kind.val (.bool true), true⟩ :: ⟨14, 62, [11, 13], Kind.val (.bool true), true⟩ :: ⟨15, 63, [14], Kind.val (undef), true⟩ :: ⟨16, 64, [14, 15], Kind.val (undef), true⟩ :: ⟨17, 65, [14, 16], Kind.val (undef), true⟩ :: ⟨18, 66, [14, 17], Kind.val (undef), true⟩ :: ⟨19, 67, [14, 17, 18], Kind.val (undef), true⟩ :: ⟨20, 68, [14, 15, 19], Kind.val (undef), true⟩ :: ⟨21, 69, [11, 14, 20], Kind.val (.bool true), true⟩ :: ⟨22, 70, [11, 21], Kind.val (.bool true), true⟩ :: []) _ _ w9 _ ?_ ?_ ?_ ?_ ?_ ?_ ?_ ?_ ?_ ?_ ?_
        · rfl
        · kernel_rfl
        · exact of_decide_eq_true (by kernel_rfl)
        · exact all_cons ⟨_, by rfl, by rfl⟩ (all_cons ⟨_, by rfl, by rfl⟩ (all_cons ⟨_, by rfl, by rfl⟩ (all_cons ⟨_, by rfl, by rfl⟩ (all_cons ⟨_, by rfl, by rfl⟩ (all_cons ⟨_, by rfl, by rfl⟩ (all_cons ⟨_, by rfl, by rfl⟩ (all_cons ⟨_, by rfl, by rfl⟩ (all_cons ⟨_, by rfl, by rfl⟩ (all_cons ⟨_, by rfl, by rfl⟩ (all_cons ⟨_, by rfl, by rfl⟩ (all_cons ⟨_, by rfl, by rfl⟩ (all_cons ⟨_, by rfl, by rfl⟩ (all_cons ⟨_, by rfl, by rfl⟩ (all_cons ⟨_, by rfl, by rfl⟩ (all_cons ⟨_, by rfl, by rfl⟩ (all_cons ⟨_, by rfl, by rfl⟩ (all_cons ⟨_, by rfl, by rfl⟩ (all_cons ⟨_, by rfl, by rfl⟩ (all_cons ⟨_, by rfl, by rfl⟩ (all_cons ⟨_, by rfl, by rfl⟩ (all_cons ⟨_, by rfl, by rfl⟩ (all_cons ⟨_, by rfl, by rfl⟩ (all_nil)))))))))))))))))))))))
        · exact fun _ hb => hb
        · exact (Below.refl _ _).drew
        · kernel_rfl
        · exact fun _ _ _ _ _ h => h
        · refine all_cons ?_ (all_cons ?_ (all_cons ?_ (all_cons ?_ (all_cons ?_ (all_cons ?_ (all_cons ?_ (all_cons ?_ (all_cons ?_ (all_cons ?_ (all_cons ?_ (all_cons ?_ (all_cons ?_ (all_cons ?_ (all_cons ?_ (all_cons ?_ (all_cons ?_ (all_cons ?_ (all_cons ?_ (all_cons ?_ (all_cons ?_ (all_cons ?_ (all_cons ?_ (all_nil)))))))))))))))))))))))
          · exact coreG_move _ _ _ _ _ _ _ (by rfl) (by rfl) (wants_none) (known_old 7 _ (of_decide_eq_true (by rfl)) (by rfl))
          · exact coreG_move _ _ _ _ _ _ _ (by rfl) (by rfl) (wants_none) (known_old 8 _ (of_decide_eq_true (by rfl)) (by rfl))
          · exact coreG_move _ _ _ _ _ _ _ (by rfl) (by rfl) (wants_none) (known_old 9 _ (of_decide_eq_true (by rfl)) (by rfl))
          · exact core_pureAs _ (by rfl)
          · exact coreG_bin _ _ _ _ _ _ _ _ _ _ _ _ _ (by rfl) (by rfl) (wants_none) (known_core 3 50 _ _ (of_decide_eq_true (by rfl)) (by rfl) (by rfl) (by rfl)) (known_core 2 51 _ _ (of_decide_eq_true (by rfl)) (by rfl) (by rfl) (by rfl)) ((fun ρ w hx hy => by simp only [execOp, hx, hy]; simp [go_sem]))
          · exact coreG_move _ _ _ _ _ _ _ (by rfl) (by rfl) (wants_none) (known_core 4 52 _ _ (of_decide_eq_true (by rfl)) (by rfl) (by rfl) (by rfl))
          · exact coreG_held _ _ _ _ _ _ _ _ _ (by rfl) (by rfl) (wants_core 5 53 5 _ _ _ (by rfl) (by rfl) (by rfl) (known_core 5 53 _ _ (of_decide_eq_true (by rfl)) (by rfl) (by rfl) (by rfl)) _ (by rfl)) (known_old 10 _ (of_decide_eq_true (by rfl)) (by rfl)) (fun ρ w hx hS => loadH_run xs H32.out g10 _ _ _ _ _ _ ρ w hx (E9.out.on hS))
          · exact coreG_move _ _ _ _ _ _ _ (by rfl) (by rfl) (wants_core 5 53 5 _ _ _ (by rfl) (by rfl) (by rfl) (known_core 5 53 _ _ (of_decide_eq_true (by rfl)) (by rfl) (by rfl) (by rfl)) _ (by rfl)) (known_old 7 _ (of_decide_eq_true (by rfl)) (by rfl))
          · exact core_pureAs _ (by rfl)
          · exact coreG_bin _ _ _ _ _ _ _ _ _ _ _ _ _ (by rfl) (by rfl) (wants_core 5 53 5 _ _ _ (by rfl) (by rfl) (by rfl) (known_core 5 53 _ _ (of_decide_eq_true (by rfl)) (by rfl) (by rfl) (by rfl)) _ (by rfl)) (known_core 6 54 _ _ (of_decide_eq_true (by rfl)) (by rfl) (by rfl) (by rfl)) (known_core 8 56 _ _ (of_decide_eq_true (by rfl)) (by rfl) (by rfl) (by rfl)) (fun ρ w hx hy => eqlH_run xs H32.out _ _ _ _ _ _ _ ρ w hx hy)
          · exact coreG_pick _ _ _ _ _ _ _ _ _ _ _ _ (by rfl) (by rfl) (wants_none) (known_core 5 53 _ _ (of_decide_eq_true (by rfl)) (by rfl) (by rfl) (by rfl)) (known_core 9 57 _ _ (of_decide_eq_true (by rfl)) (by rfl) (by rfl) (by rfl)) (known_const _) (by rfl)
          · exact coreG_move _ _ _ _ _ _ _ (by rfl) (by rfl) (wants_none) (known_core 10 58 _ _ (of_decide_eq_true (by rfl)) (by rfl) (by rfl) (by rfl))
          · exact coreG_move _ _ _ _ _ _ _ (by rfl) (by rfl) (wants_core 11 59 11 _ _ _ (by rfl) (by rfl) (by rfl) (known_core 11 59 _ _ (of_decide_eq_true (by rfl)) (by rfl) (by rfl) (by rfl)) _ (by rfl)) (known_old 9 _ (of_decide_eq_true (by rfl)) (by rfl))
          · exact coreG_un _ _ _ _ _ _ _ _ _ _ (by rfl) (by rfl) (wants_core 11 59 11 _ _ _ (by rfl) (by rfl) (by rfl) (known_core 11 59 _ _ (of_decide_eq_true (by rfl)) (by rfl) (by rfl) (by rfl)) _ (by rfl)) (known_core 12 60 _ _ (of_decide_eq_true (by rfl)) (by rfl) (by rfl) (by rfl)) (fun ρ w hx => by simp only [execOp, hx]; simp [go_sem])
          · exact coreG_move _ _ _ _ _ _ _ (by rfl) (by rfl) (wants_core 11 59 11 _ _ _ (by rfl) (by rfl) (by rfl) (known_core 11 59 _ _ (of_decide_eq_true (by rfl)) (by rfl) (by rfl) (by rfl)) _ (by rfl)) (known_core 13 61 _ _ (of_decide_eq_true (by rfl)) (by rfl) (by rfl) (by rfl))
          · exact coreG_skip _ _ _ _ _ _ (by rfl) (by rfl) (wants_core 14 62 14 _ _ _ (by rfl) (by rfl) (by rfl) (known_core 14 62 _ _ (of_decide_eq_true (by rfl)) (by rfl) (by rfl) (by rfl)) _ (by rfl))
          · exact coreG_skip _ _ _ _ _ _ (by rfl) (by rfl) (wants_core 14 62 14 _ _ _ (by rfl) (by rfl) (by rfl) (known_core 14 62 _ _ (of_decide_eq_true (by rfl)) (by rfl) (by rfl) (by rfl)) _ (by rfl))
          · exact coreG_skip _ _ _ _ _ _ (by rfl) (by rfl) (wants_core 14 62 14 _ _ _ (by rfl) (by rfl) (by rfl) (known_core 14 62 _ _ (of_decide_eq_true (by rfl)) (by rfl) (by rfl) (by rfl)) _ (by rfl))
          · exact coreG_skip _ _ _ _ _ _ (by rfl) (by rfl) (wants_core 14 62 14 _ _ _ (by rfl) (by rfl) (by rfl) (known_core 14 62 _ _ (of_decide_eq_true (by rfl)) (by rfl) (by rfl) (by rfl)) _ (by rfl))
          · exact coreG_skip _ _ _ _ _ _ (by rfl) (by rfl) (wants_core 14 62 14 _ _ _ (by rfl) (by rfl) (by rfl) (known_core 14 62 _ _ (of_decide_eq_true (by rfl)) (by rfl) (by rfl) (by rfl)) _ (by rfl))
          · exact coreG_skip _ _ _ _ _ _ (by rfl) (by rfl) (wants_core 14 62 14 _ _ _ (by rfl) (by rfl) (by rfl) (known_core 14 62 _ _ (of_decide_eq_true (by rfl)) (by rfl) (by rfl) (by rfl)) _ (by rfl))
          · exact coreG_pick _ _ _ _ _ _ _ _ _ _ _ _ (by rfl) (by rfl) (wants_core 11 59 11 _ _ _ (by rfl) (by rfl) (by rfl) (known_core 11 59 _ _ (of_decide_eq_true (by rfl)) (by rfl) (by rfl) (by rfl)) _ (by rfl)) (known_core 14 62 _ _ (of_decide_eq_true (by rfl)) (by rfl) (by rfl) (by rfl)) (known_const _) (known_core 20 68 _ _ (of_decide_eq_true (by rfl)) (by rfl) (by rfl) (by rfl)) (by rfl)
          · exact coreG_pick _ _ _ _ _ _ _ _ _ _ _ _ (by rfl) (by rfl) (wants_none) (known_core 11 59 _ _ (of_decide_eq_true (by rfl)) (by rfl) (by rfl) (by rfl)) (known_core 21 69 _ _ (of_decide_eq_true (by rfl)) (by rfl) (by rfl) (by rfl)) (known_const _) (by rfl)
        · refine all_cons ?_ (all_cons ?_ (all_cons ?_ (all_cons ?_ (all_cons ?_ (all_cons ?_ (all_cons ?_ (all_cons ?_ (all_cons ?_ (all_cons ?_ (all_cons ?_ (all_cons ?_ (all_cons ?_ (all_cons ?_ (all_cons ?_ (all_cons ?_ (all_cons ?_ (all_cons ?_ (all_cons ?_ (all_cons ?_ (all_cons ?_ (all_cons ?_ (all_cons ?_ (all_nil)))))))))))))))))))))))
          · exact core_stepAs _ (by rfl)
          · exact core_stepAs _ (by rfl)
          · exact core_stepAs _ (by rfl)
          · exact fun _ => coreG_callB _ 23 _ _ [.tmp 48, .tmp 49] _ _ _ _ _ _ _ (by rfl) Tryd.func23 (by kernel_rfl) (by rfl) (by rfl) (wants_none) (.cons (known_core 0 48 _ _ (of_decide_eq_true (by rfl)) (by rfl) (by rfl) (by rfl)) (.cons (known_core 1 49 _ _ (of_decide_eq_true (by rfl)) (by rfl) (by rfl) (by rfl)) .nil)) (fun u hb => CS.out u hb)
          · exact core_stepAs _ (by rfl)
          · exact core_stepAs _ (by rfl)
          · exact core_stepAs _ (by rfl)
          · exact core_stepAs _ (by rfl)
          · exact fun _ => coreG_callB _ 12 _ _ [.tmp 55] _ _ _ _ _ _ _ (by rfl) Tryd.func12 (by kernel_rfl) (by rfl) (by rfl) (wants_core 5 53 5 _ _ _ (by rfl) (by rfl) (by rfl) (known_core 5 53 _ _ (of_decide_eq_true (by rfl)) (by rfl) (by rfl) (by rfl)) _ (by rfl)) (.cons (known_core 7 55 _ _ (of_decide_eq_true (by rfl)) (by rfl) (by rfl) (by rfl)) .nil) (fun u hb => CO.out u hb)
          · exact core_stepAs _ (by rfl)
          · exact core_stepAs _ (by rfl)
          · exact core_stepAs _ (by rfl)
          · exact core_stepAs _ (by rfl)
          · exact core_stepAs _ (by rfl)
          · exact core_stepAs _ (by rfl)
          · exact core_stepAs _ (by rfl)
          · exact core_stepAs _ (by rfl)
          · exact core_stepAs _ (by rfl)
          · exact core_stepAs _ (by rfl)
          · exact core_stepAs _ (by rfl)
          · exact core_stepAs _ (by rfl)
          · exact core_stepAs _ (by rfl)
          · exact core_stepAs _ (by rfl)
        intro vs y9 hc
        have BZ := bel_tr B9.out hc.bel
        refine assign_one (i := 23) (.tmp 70) 6 _ _ _ (.bool true) (by kernel_rfl) (by rfl) (hc.at_ (of_decide_eq_true (by kernel_rfl)) (by rfl) 22 70 _ (.bool true) (by rfl) (by rfl) (by rfl)) (hc.bel) ?_
        refine wpAnyH_done (by kernel_rfl) ?_ _
        refine NoPanic.normal ?_
        generalize hA : Act.put (over _ _ vs) (some 6) (.bool true) = A
        have hA0 : A.tmps.getD 6 undef = .bool true := by rw [← hA]; exact put_at _ _ _ (by rw [over_size]; exact Nat.le_of_ble_eq_true rfl)
        have hAd : A.defers = [] := by rw [← hA, put_defers, over_defers] <;> rfl
        clear hA hc
        go_wp2_with fail
        refine bodyPost_ret (v := .bool true) (by simp [results, Tryd.results5, go_sem] at hA0 ⊢; simp [hA0]) hAd ⟨rfl, BZ⟩
end Go.Proofs.YtkmjfaaelkmnkaaDoor
