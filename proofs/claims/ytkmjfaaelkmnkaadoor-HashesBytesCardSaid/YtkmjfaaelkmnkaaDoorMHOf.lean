/-
  shas.Hash, shas.Of: what has been written, ended and told.
-/
import Derived.Test.YtkmjfaaelkmnkaaDoorMConcat
import Derived.Test.YtkmjfaaelkmnkaaDoorMOpenR
import Derived.Test.YtkmjfaaelkmnkaaDoorMWrite
namespace Go.Proofs.YtkmjfaaelkmnkaaDoor
open Go.RowKit
set_option linter.unusedSimpArgs false
set_option linter.unusedVariables false

theorem zero_sum : (Tryd.prog.info? 67).map (·.zero) = some (some (.agg (sumC false 0 (List.replicate 8 0) (List.replicate 64 0)).toArray)) := by kernel_rfl
theorem under_sum : ∃ td, Tryd.prog.underlying 67 = some td ∧ td.isRow = true := ⟨_, Tryd.underlying67, rfl⟩
theorem sumC_one (m : Bool) (n : Nat) (S B : List Nat) : ∀ u ∈ sumC m n S B, u.oneCell' = true := by
  intro u hu
  simp only [sumC, List.mem_cons, List.mem_append] at hu
  rcases hu with rfl | rfl | hu | hu
  · rfl
  · rfl
  · exact hs_one _ u hu
  · exact bs_one _ u hu

/-- Write, where an empty slice may lie anywhere -/
theorem write_any (g : Nat) (A : Option Addr) (n c : Nat) (l m : List Nat) (w : World) (hs : SumAt w g (l)) (hr : Rd w A n (bs m)) (hnc : n ≤ c) (hcm : c ≤ 9223372036854775807) (far : ∀ b o, A = some ⟨b, o, none⟩ → 0 < n → b ≠ g) (hb : ∀ y ∈ m, y < 256) (T : Tabs w) (h0 : g ≠ 0) (h1 : g ≠ 1) (hl : l.length + n < 1099511627776) :
    Calls Tryd.prog 11 #[.pointer (some ⟨g, 0, none⟩), .slice A n c] w fun e w' => e = .returned (.int .i64 0) ∧ SumAt w' g (l ++ m) ∧ w.grownBy w' (some g) := by
  by_cases hn : 0 < n
  · exact write_ok g A n c l m w hs ⟨hr, hnc, hcm, fun b o e => far b o e hn⟩ hb T h0 h1 hl
  · obtain rfl : n = 0 := by omega
    obtain rfl : m = [] := List.eq_nil_of_length_eq_zero (by have := hr.1; rwa [bs_len] at this)
    rw [List.append_nil]
    have hmade : w.cell? ⟨g, 0, none⟩ = some (.bool true) := by obtain ⟨B, _, _, hat, _⟩ := hs; rw [hat.cell]; rfl
    have AB := Lib.hid (absent_no g w hmade)
    have HS := Lib.hid hs
    clear hmade hs hr
    go_enter Tryd.func11, Tryd.ntmps11
    go_wp2_with (go_at_call 31; refine AB.out.mono ?_; rintro e w' ⟨rfl, rfl⟩)
    refine wp_loop_rounds 1 ?_
    rw [rounds_succ]
    go_wp2
    go_ret
    exact ⟨rfl, HS.out, grown_rf _ _⟩
set_option maxRecDepth 100000 in
set_option maxHeartbeats 4000000 in
theorem hash_ok (g : Nat) (l : List Nat) (w : World) (hs0 : SumAt w g l) (T : Tabs w) (hl : l.length < 549755813888) :
    Calls Tryd.prog 10 #[.pointer (some ⟨g, 0, none⟩)] w fun e w' => e = .returned (.agg (bs (sha l)).toArray) ∧ Below w.heap.size w w' := by
  have HS := Lib.hid hs0
  have HT := Lib.hid T
  have hw1 := T.lt1
  obtain ⟨td, hu, hd⟩ := under_sum
  clear hs0 T
  go_enter Tryd.func10, Tryd.ntmps10
  go_wp2_with (refine law_alloc (d := 2) (ty := 28) _ zero_hash ?_; intro w1 N1)
  have S1 := Lib.hid (HS.out.on N1.bel)
  have T1 := Lib.hid (HT.out.on N1.bel)
  have A1 := Lib.hid N1.at_
  have B1 := Lib.hid N1.bel
  have Z1 := Lib.hid N1.size
  have hgl := HS.out.lt
  clear N1
  obtain ⟨gr, hgr⟩ : ∃ x, w.heap.size = x := ⟨_, rfl⟩
  have GR := Lib.hid hgr
  rw [hgr] at A1 ⊢
  rw [hgr] at hw1 hgl Z1
  clear hgr
  obtain ⟨B, hB, hBb, hat, hBt⟩ := S1.out
  have hmade : w1.cell? ⟨g, 0, none⟩ = some (.bool true) := by rw [hat.cell]; rfl
  refine (absent_no g w1 hmade).mono ?_
  rintro e w' ⟨rfl, rfl⟩
  have hlen := sumC_len true l.length (run init l (l.length / 64)).list B rfl hB
  have c1 : w1.cell? ⟨g, 1, none⟩ = some (.int .u64 (l.length : Nat)) := by rw [hat.cell]; rfl
  obtain ⟨xs, hxs⟩ : ∃ xs, sumC true l.length (run init l (l.length / 64)).list B = xs := ⟨_, rfl⟩
  have ho : Hid (∀ u ∈ xs, u.oneCell' = true) := Lib.hid (by rw [← hxs]; exact sumC_one _ _ _ _)
  have HXS := Lib.hid hxs
  rw [hxs] at hat hlen
  have HL := Lib.hid hlen
  have HAT := Lib.hid hat
  have HBB := Lib.hid hBb
  have HBT := Lib.hid hBt
  have HB := Lib.hid hB
  clear hmade hat hlen hxs hBb hBt hB S1
  have zs : Hid ((sumC false 0 (List.replicate 8 0) (List.replicate 64 0)).length = 74) := Lib.hid rfl
  obtain ⟨zz, hzz⟩ : ∃ zz, sumC false 0 (List.replicate 8 0) (List.replicate 64 0) = zz := ⟨_, rfl⟩
  have ZS := zero_sum
  rw [hzz] at zs ZS
  have ZSH := Lib.hid ZS
  clear hzz ZS
  go_wp2_with (first | (refine law_load (ty := 67) g 0 xs td rfl HAT.out.all hu hd (by rw [size_sum, HL.out]) ?_) | (refine law_alloc (d := 3) (ty := 67) _ ZSH.out ?_; intro w3 N3; have H3 := Lib.hid N3; clear N3; refine law_store (ty := 67) w1.heap.size 0 _ zz.toArray xs rfl rfl H3.out.at_ (by rw [List.size_toArray, HL.out, zs.out]; omega) (by rw [size_sum, HL.out]) ho.out ?_; intro w4 P4; have H4 := Lib.hid P4; have c4 : w4.cell? ⟨g, 1, none⟩ = some (.int .u64 (l.length : Nat)) := ((((HAT.out.on H3.out.bel).grown P4.grown (by have := Z1.out; simp; omega)).cell 1).trans ((HAT.out.cell 1).symm.trans c1)); clear P4))
  have z3 := H3.out.size
  have z1 := Z1.out
  have L4 : At w4 w1.heap.size 67 xs.toArray := by have h := H4.out.at_; rwa [put_all _ _ (by rw [HL.out, zs.out])] at h
  have S4 : Hid (SumAt w4 w1.heap.size l) := Lib.hid ⟨B, HB.out, HBB.out, by rw [HXS.out]; exact L4, HBT.out⟩
  have G4 := H4.out.grown
  have T4 : Hid (Tabs w4) := Lib.hid ((T1.out.on H3.out.bel).grown G4 (by omega) (by omega))
  have R4 : Hid (At w4 gr 28 (bs (List.replicate 32 0)).toArray) := Lib.hid ((A1.out.on H3.out.bel).grown G4 (by simp; omega))
  have B4 : Hid (Below w.heap.size w w4) := Lib.hid ((bel_tr B1.out H3.out.bel).grown G4 (by have := B1.out.size; have := H3.out.bel.size; omega) (by have := GR.out; simp; omega))
  have hs4 := S4.out.lt
  clear c1 c4 H3 H4 L4 G4 HAT HXS ho HBB HBT HB zs ZSH A1 B1 T1 hgl
  obtain ⟨ge, hge⟩ : ∃ x, w1.heap.size = x := ⟨_, rfl⟩
  rw [hge] at S4 z1 hs4 z3 ⊢
  have dge : gr < ge := by omega
  clear hge z1 z3 Z1
  refine (ending_ok l.length (by omega) w4).mono ?_
  rintro e w5 ⟨gz, hgz, rfl, hz, hb5⟩
  have S5 := Lib.hid (S4.out.on hb5)
  have T5 := Lib.hid (T4.out.on hb5)
  have R5 := Lib.hid (R4.out.on hb5)
  have B5 := Lib.hid (bel_tr B4.out hb5)
  have W := Lib.hid (write_ok ge (some ⟨gz, 0, none⟩) (noughts l.length + 9) (noughts l.length + 9) l (tail l.length) w5 S5.out ⟨hz, Nat.le_refl _, by have : noughts l.length < 64 := Nat.mod_lt _ (by decide); omega, fun b o e => by injection e with e; injection e with e1 _; omega⟩ (tail_lt _) T5.out (by omega) (by omega) (by have : noughts l.length < 64 := Nat.mod_lt _ (by decide); omega))
  clear hz hb5 S4 T4 R4 B4 S5
  go_wp2_with fail
  refine W.out.mono ?_
  rintro e w6 ⟨rfl, s6, g6⟩
  have T6 := Lib.hid (T5.out.grown g6 (by omega) (by omega))
  have R6 := Lib.hid (R5.out.grown g6 (by simp; omega))
  have B6 : Hid (Below w.heap.size w w6) := Lib.hid (B5.out.grown g6 (by have := B5.out.size; omega) (by have := GR.out; simp; omega))
  obtain ⟨Bz, hBz, hBzb, hatz, _⟩ := s6
  obtain ⟨so, hso⟩ : ∃ so, run init (l ++ tail l.length) ((l ++ tail l.length).length / 64) = so := ⟨_, rfl⟩
  have hok := run_ok init_ok (l ++ tail l.length) ((l ++ tail l.length).length / 64)
  have hsha : sha l = so.list.flatMap (be 4) := by rw [← hso, sha, List.length_append, tail_len]
  rw [hso] at hatz hok
  have HSHA := Lib.hid hsha
  have hrg : w6.rangeAt ge 2 (hs so.list) := hatz.range _ (fun j v hv => by
    rw [List.getElem?_toArray, show 2 + j = j + 2 by omega]
    show (hs so.list ++ bs Bz)[j]? = some v
    rw [List.getElem?_append_left (List.getElem?_eq_some_iff.1 hv).1]; exact hv)
  have h8 : (hs so.list).length = 8 := by rw [hs_len]; rfl
  have TD := Lib.hid (told_ok so hok w6)
  obtain ⟨x8, hx8⟩ : ∃ x8, hs so.list = x8 := ⟨_, rfl⟩
  rw [hx8] at hrg h8 TD
  have h32 : (bs (so.list.flatMap (be 4))).length = 32 := by rw [bs_len, told_len]; rfl
  have ho32 := bs_one (so.list.flatMap (be 4))
  obtain ⟨xh, hxh⟩ : ∃ xh, bs (so.list.flatMap (be 4)) = xh := ⟨_, rfl⟩
  rw [hxh] at TD h32 ho32
  have HXH := Lib.hid hxh
  have HRG := Lib.hid hrg
  have H8 := Lib.hid h8
  have H32 := Lib.hid h32
  have HO32 := Lib.hid ho32
  clear hatz hBzb hBz hso hok hsha hrg h8 hx8 hxh h32 ho32 W T5 R5 B5 g6 T6
  go_wp2_with (refine law_load (ty := 64) ge 2 x8 _ rfl HRG.out under_eight rfl (by rw [size_eight, H8.out]) ?_)
  refine TD.out.mono ?_
  rintro e w7 ⟨rfl, b7⟩
  have R7 := Lib.hid (R6.out.on b7)
  have B7 := Lib.hid (bel_tr B6.out b7)
  have z32 : Hid ((bs (List.replicate 32 0)).length = 32) := Lib.hid (by simp [bs_len])
  obtain ⟨zr, hzr⟩ : ∃ zr, bs (List.replicate 32 0) = zr := ⟨_, rfl⟩
  rw [hzr] at R7 z32
  clear R6 B6 b7 TD hzr HRG
  go_wp2_with (refine law_store (ty := 28) gr 0 _ zr.toArray xh rfl rfl R7.out (by rw [List.size_toArray, H32.out, z32.out]; omega) (by rw [size_hash, H32.out]) HO32.out ?_; intro w8 P8)
  have L8 := P8.at_
  rw [put_all _ _ (by rw [H32.out, z32.out])] at L8
  refine ret_cell (ty := 28) rfl gr _ xh _ rfl L8 under_hash rfl (by rw [size_hash, H32.out]) rfl ⟨by rw [HSHA.out, HXH.out], B7.out.grown P8.grown (by have := B7.out.size; omega) (by have := GR.out; simp; omega)⟩
end Go.Proofs.YtkmjfaaelkmnkaaDoor

/-
  shas.Of.
-/
namespace Go.Proofs.YtkmjfaaelkmnkaaDoor
open Go.RowKit
set_option linter.unusedSimpArgs false
set_option linter.unusedVariables false

set_option maxRecDepth 100000 in
theorem of_ok (A : Option Addr) (n c : Nat) (l : List Nat) (w : World) (hr : Rd w A n (bs l)) (hnc : n ≤ c) (hcm : c ≤ 9223372036854775807) (hb : ∀ y ∈ l, y < 256) (T : Tabs w) (hn : n < 549755813888) :
    Calls Tryd.prog 12 #[.slice A n c] w fun e w' => e = .returned (.agg (bs (sha l)).toArray) ∧ Below w.heap.size w w' := by
  have HR := Lib.hid hr
  have HB := Lib.hid hb
  have HT := Lib.hid T
  have hw1 := T.lt1
  have hln : l.length = n := by have := hr.1; rwa [bs_len] at this
  have HLN := Lib.hid hln
  clear hr hb T hln
  go_enter Tryd.func12, Tryd.ntmps12
  go_wp2_with (refine law_alloc (d := 2) (ty := 28) _ zero_hash ?_; intro w1 N1)
  have T1 := Lib.hid (HT.out.on N1.bel)
  have R1 := Lib.hid (HR.out.below N1.bel)
  have A1 := Lib.hid N1.at_
  have B1 := Lib.hid N1.bel
  have Z1 := Lib.hid N1.size
  clear N1
  obtain ⟨gr, hgr⟩ : ∃ x, w.heap.size = x := ⟨_, rfl⟩
  have GR := Lib.hid hgr
  rw [hgr] at A1 hw1 Z1 ⊢
  clear hgr
  refine (new_ok w1 T1.out).mono ?_
  rintro e w2 ⟨rfl, s2, b2⟩
  have T2 := Lib.hid (T1.out.on b2)
  have R2 := Lib.hid (R1.out.below b2)
  have A2 := Lib.hid (A1.out.on b2)
  have B2 := Lib.hid (bel_tr B1.out b2)
  obtain ⟨g, hg⟩ : ∃ x, w1.heap.size = x := ⟨_, rfl⟩
  have hgg : g = gr + 1 := by rw [← hg, Z1.out]
  have far : ∀ b o, A = some ⟨b, o, none⟩ → 0 < n → b ≠ g := by
    intro b o e hp
    obtain ⟨b', o', e', hb', _⟩ := HR.out.spot hp
    rw [e'] at e
    injection e with e
    injection e with e1 _
    have := GR.out
    omega
  rw [hg] at s2 ⊢
  have gne : gr < g := by omega
  have W := Lib.hid (write_any g A n c [] l w2 s2 R2.out hnc hcm far HB.out T2.out (by omega) (by omega) (by simp; omega))
  clear s2 b2 T1 R1 A1 B1 hg hgg Z1 far R2
  go_wp2_with fail
  refine W.out.mono ?_
  rintro e w3 ⟨rfl, s3, g3⟩
  rw [List.nil_append] at s3
  have T3 := Lib.hid (T2.out.grown g3 (by omega) (by omega))
  have A3 := Lib.hid (A2.out.grown g3 (by simp; omega))
  have B3 : Hid (Below w.heap.size w w3) := Lib.hid (B2.out.grown g3 (by have := B2.out.size; omega) (by have := GR.out; simp; omega))
  have H := Lib.hid (hash_ok g l w3 s3 T3.out (by rw [HLN.out]; exact hn))
  have h32 : Hid ((bs (sha l)).length = 32) := Lib.hid (by rw [bs_len, sha_len])
  have ho32 := Lib.hid (bs_one (sha l))
  obtain ⟨xh, hxh⟩ : ∃ xh, bs (sha l) = xh := ⟨_, rfl⟩
  rw [hxh] at H h32 ho32
  have HXH := Lib.hid hxh
  have z32 : Hid ((bs (List.replicate 32 0)).length = 32) := Lib.hid (by simp [bs_len])
  obtain ⟨zr, hzr⟩ : ∃ zr, bs (List.replicate 32 0) = zr := ⟨_, rfl⟩
  rw [hzr] at A3 z32
  clear s3 g3 W T2 A2 B2 hxh hzr
  go_wp2_with fail
  refine H.out.mono ?_
  rintro e w4 ⟨rfl, b4⟩
  have A4 := Lib.hid (A3.out.on b4)
  have B4 := Lib.hid (bel_tr B3.out b4)
  clear H A3 B3 b4
  go_wp2_with (refine law_store (ty := 28) gr 0 _ zr.toArray xh rfl rfl A4.out (by rw [List.size_toArray, h32.out, z32.out]; omega) (by rw [size_hash, h32.out]) ho32.out ?_; intro w8 P8)
  have L8 := P8.at_
  rw [put_all _ _ (by rw [h32.out, z32.out])] at L8
  refine ret_cell (ty := 28) rfl gr _ xh _ rfl L8 under_hash rfl (by rw [size_hash, h32.out]) rfl ⟨by rw [HXH.out], B4.out.grown P8.grown (by have := B4.out.size; omega) (by have := GR.out; simp; omega)⟩
end Go.Proofs.YtkmjfaaelkmnkaaDoor

/-
  hashes.Of: what it answers.
-/
namespace Go.Proofs.YtkmjfaaelkmnkaaDoor
open Go.RowKit
set_option linter.unusedSimpArgs false
set_option linter.unusedVariables false
set_option maxRecDepth 100000

theorem hbs_len (a : List Nat) (n M : Nat) (RB : Nat → List Nat) (h : ∀ j, j < n → (RB j).length ≤ M) : (hbs a n RB).length ≤ 8 + a.length + n * (4 + M) := by
  have := cat_len (fun j => putB (RB j)) (4 + M) n (fun j hj => by rw [putB_len]; have := h j hj; omega)
  simp only [hbs, List.length_append, putB_len, be_len]
  omega

set_option maxHeartbeats 2000000 in
theorem hof_ok (s : ByteArray) (A : Option Addr) (n c : Nat) (RA : Nat → Option Addr) (RL RC : Nat → Nat) (RB : Nat → List Nat) (w : World) (hs : s.size ≤ 1048576) (hn : n ≤ 4096) (hL : ∀ j, j < n → RL j ≤ 1048576)
    (hR : Rows2 w A n c RA RL RC RB) (T : Tabs w) :
    Calls Tryd.prog 17 #[.string s, .slice A n c] w fun e w' => e = .returned (.agg (bs (sha (hbs (sb s) n RB))).toArray) ∧ Below w.heap.size w w' := by
  have HR := Lib.hid hR
  have HT := Lib.hid T
  have HL := Lib.hid hL
  have hw1 := T.lt1
  have HBL : Hid ((hbs (sb s) n RB).length < 549755813888) := Lib.hid (by
    have h1 := hbs_len (sb s) n 1048576 RB (fun j hj => by have := hL j hj; have h2 := (hR.rd j hj).1; rw [bs_len] at h2; omega)
    rw [sb_len] at h1
    have : n * (4 + 1048576) ≤ 4096 * (4 + 1048576) := Nat.mul_le_mul_right _ hn
    omega)
  clear hR T hL
  go_enter Tryd.func17, Tryd.ntmps17
  go_wp2_with (refine law_alloc (d := 4) (ty := 28) _ zero_hash ?_; intro w1 N1)
  have T1 := Lib.hid (HT.out.on N1.bel)
  have A1 := Lib.hid N1.at_
  have B1 := Lib.hid N1.bel
  have Z1 := Lib.hid N1.size
  clear N1
  obtain ⟨gr, hgr⟩ : ∃ x, w.heap.size = x := ⟨_, rfl⟩
  have GR := Lib.hid hgr
  rw [hgr] at A1 hw1 Z1 ⊢
  clear hgr
  refine (new_ok w1 T1.out).mono ?_
  rintro e w2 ⟨rfl, s2, b2⟩
  have T2 := Lib.hid (T1.out.on b2)
  have A2 := Lib.hid (A1.out.on b2)
  have B2 := Lib.hid (bel_tr B1.out b2)
  obtain ⟨g, hg⟩ : ∃ x, w1.heap.size = x := ⟨_, rfl⟩
  have hgg : g = gr + 1 := by rw [← hg, Z1.out]
  rw [hg] at s2 ⊢
  have gne : gr < g := by omega
  have S2 := Lib.hid s2
  have GS2 := Lib.hid s2.lt
  clear s2 b2 T1 A1 B1 hg hgg Z1
  go_wp2_with (refine law_convS (d := 11) s rfl ?_; intro w3 c3 N3; have H3 := Lib.hid N3; clear N3)
  refine (putBytes_any none _ 0 0 s.size c3 [] (sb s) w3 (by omega) (by omega) (fun _ => ⟨rfl, rfl⟩) (Rd.nil _ _) (by omega) (fun h => by cases h) H3.out.rd).mono ?_
  rintro e w4 ⟨v4, rfl, o4, b4⟩
  simp only [Nat.zero_add, List.nil_append] at o4
  have hg3 : g < w3.heap.size + 1 := by have := H3.out.size; have := GS2.out; omega
  obtain ⟨A4, c4, rfl, k41, k42, r4, nil4, far4⟩ := src_of o4 hg3
  have T4 := Lib.hid ((T2.out.on H3.out.bel).on b4)
  have A4' := Lib.hid ((A2.out.on H3.out.bel).on b4)
  have B4 := Lib.hid (bel_tr (bel_tr B2.out H3.out.bel) b4)
  have W4 := Lib.hid (write_any g A4 _ c4 [] (putB (sb s)) w4 ((S2.out.on H3.out.bel).on b4) r4 k41 k42 far4 (putB_lt _ (sb_lt s)) T4.out (by omega) (by omega) (by simp; omega))
  clear o4 b4 r4 nil4 far4 H3 T2 A2 B2 S2 GS2 hg3
  go_wp2_with fail
  refine W4.out.mono ?_
  rintro e w5 ⟨rfl, s5, g5⟩
  rw [List.nil_append] at s5
  have S5 := Lib.hid s5
  have T5 := Lib.hid (T4.out.grown g5 (by omega) (by omega))
  have A5 := Lib.hid (A4'.out.grown g5 (by simp; omega))
  have B5 : Hid (Below w.heap.size w w5) := Lib.hid (B4.out.grown g5 B4.out.size (by have := GR.out; simp; omega))
  have GS5 := Lib.hid s5.lt
  clear s5 g5 W4 T4 A4' B4 k41 k42
  have hwn : IntKind.u64.wrap (n : Int) = (n : Int) := by rw [IntKind.wrap_u64]; omega
  have HPN := Lib.hid (put_any none 0 0 4 n 4 [] w5 (by omega) (by omega) (by omega) (fun _ => ⟨rfl, rfl⟩) (Rd.nil _ _) (by omega))
  go_wp2_with fail
  clear hwn
  refine HPN.out.mono ?_
  rintro e w6 ⟨rfl, o6, b6⟩
  simp only [Nat.zero_add, List.nil_append] at o6
  have T6 := Lib.hid (T5.out.on b6)
  have A6 := Lib.hid (A5.out.on b6)
  have B6 := Lib.hid (bel_tr B5.out b6)
  have hg5 : g < w5.heap.size + 1 := by have := GS5.out; omega
  obtain ⟨A6s, c6, e6, k61, k62, r6, nil6, far6⟩ := src_of o6 hg5
  injection e6 with e61 e62 e63
  subst e61
  subst e63
  have W6 := Lib.hid (write_any g (some ⟨w5.heap.size + 1, 0, none⟩) 4 4 (putB (sb s)) (be 4 n) w6 (S5.out.on b6) r6 k61 k62 far6 (be_lt 4 n) T6.out (by omega) (by omega) (by rw [putB_len, sb_len]; omega))
  clear o6 b6 r6 nil6 far6 S5 T5 A5 B5 HPN GS5 hg5 e62 k61 k62
  go_wp2_with fail
  refine W6.out.mono ?_
  rintro e w7 ⟨rfl, s7, g7⟩
  have S7 : Hid (SumAt w7 g (putB (sb s) ++ (be 4 n ++ cat (fun j => putB (RB j)) 0))) := Lib.hid (by simpa [cat] using s7)
  have T7 := Lib.hid (T6.out.grown g7 (by omega) (by omega))
  have A7 := Lib.hid (A6.out.grown g7 (by simp; omega))
  have B7 : Hid (Below w.heap.size w w7) := Lib.hid (B6.out.grown g7 B6.out.size (by have := GR.out; simp; omega))
  clear s7 g7 W6 T6 A6 B6
  go_wp2_with fail
  go_loopw [22] (fun i' wr => ∃ k : Nat, k ≤ n ∧ i' = .int .i64 k ∧ Hid (SumAt wr g (putB (sb s) ++ (be 4 n ++ cat (fun j => putB (RB j)) k))) ∧ Hid (At wr gr 28 (bs (List.replicate 32 0)).toArray) ∧ Hid (Tabs wr) ∧ Hid (Below w.heap.size w wr)) (fun i' _ => n - (intOf i').toNat)
  case atStart => exact ⟨0, by omega, rfl, S7, A7, T7, B7⟩
  case round =>
    obtain ⟨k, hk, rfl, S8, A8, T8, B8⟩ := hrel
    clear S7 A7 T7 B7
    have R8 := Lib.hid (HR.out.below B8.out)
    have GS8 := Lib.hid S8.out.lt
    by_cases hlt : k < n
    · have hlt' : (k : Int) < (n : Int) := by omega
      obtain ⟨b, o, rfl, hbl, hcell⟩ := R8.out.cell k hlt
      have hrl := HL.out k hlt
      have hlen : (RB k).length = RL k := by have := (R8.out.rd k hlt).1; rwa [bs_len] at this
      have HRD := Lib.hid (R8.out.rd k hlt)
      have HNIL := Lib.hid (R8.out.rnil k hlt)
      have HBY := Lib.hid (R8.out.byte k hlt)
      have HLE := Lib.hid (show (putB (sb s) ++ (be 4 n ++ cat (fun j => putB (RB j)) k)).length + (4 + RL k) < 1099511627776 by
        have h1 := cat_len (fun j => putB (RB j)) (4 + 1048576) k (fun j hj => by rw [putB_len]; have := HL.out j (by omega); have h2 := (R8.out.rd j (by omega)).1; rw [bs_len] at h2; omega)
        have : k * (4 + 1048576) ≤ 4096 * (4 + 1048576) := Nat.mul_le_mul_right _ (by omega)
        simp only [List.length_append, putB_len, be_len, sb_len]
        omega)
      have HST : Hid (putB (sb s) ++ (be 4 n ++ cat (fun j => putB (RB j)) k) ++ putB (RB k) = putB (sb s) ++ (be 4 n ++ cat (fun j => putB (RB j)) (k + 1))) := Lib.hid (by simp [cat, List.append_assoc])
      generalize RA k = ra at *
      generalize RL k = rl at *
      generalize RC k = rc at *
      generalize RB k = rb at *
      clear hlen
      go_wp2_with fail
      refine (putBytes_any none ra 0 0 rl rc [] rb _ (by omega) (by omega) (fun _ => ⟨rfl, rfl⟩) (Rd.nil _ _) (by omega) HNIL.out HRD.out).mono ?_
      rintro e w9 ⟨v9, rfl, o9, b9⟩
      simp only [Nat.zero_add, List.nil_append] at o9
      obtain ⟨A9s, c9, rfl, k91, k92, r9, nil9, far9⟩ := src_of o9 (show g < _ by have := GS8.out; omega)
      have T9 := Lib.hid (T8.out.on b9)
      have A9 := Lib.hid (A8.out.on b9)
      have B9 := Lib.hid (bel_tr B8.out b9)
      have W9 := Lib.hid (write_any g A9s _ c9 _ (putB rb) w9 (S8.out.on b9) r9 k91 k92 far9 (putB_lt _ HBY.out) T9.out (by omega) (by omega) HLE.out)
      clear o9 b9 r9 nil9 far9 S8 T8 A8 B8 R8 GS8 HRD k91 k92
      go_wp2_with fail
      refine W9.out.mono ?_
      rintro e w10 ⟨rfl, s10, g10⟩
      rw [HST.out] at s10
      have S10 := Lib.hid s10
      have T10 := Lib.hid (T9.out.grown g10 (by omega) (by omega))
      have A10 := Lib.hid (A9.out.grown g10 (by simp; omega))
      have B10 : Hid (Below w.heap.size w w10) := Lib.hid (B9.out.grown g10 B9.out.size (by have := GR.out; simp; omega))
      clear s10 g10 W9 T9 A9 B9
      go_wp2
      go_roundw
      case rel => exact ⟨k + 1, by omega, by go_num, S10, A10, T10, B10⟩
      case measure => simp [intOf]; omega
    · obtain rfl : k = n := by omega
      have hlt' : ¬ (k : Int) < (k : Int) := by omega
      have H := Lib.hid (hash_ok g _ _ S8.out T8.out HBL.out)
      have h32 : Hid ((bs (sha (hbs (sb s) k RB))).length = 32) := Lib.hid (by rw [bs_len, sha_len])
      have ho32 := Lib.hid (bs_one (sha (hbs (sb s) k RB)))
      have H : Hid (Calls Tryd.prog 10 #[.pointer (some ⟨g, 0, none⟩)] _ fun e w' => e = .returned (.agg (bs (sha (hbs (sb s) k RB))).toArray) ∧ Below _ _ w') := H
      obtain ⟨xh, hxh⟩ : ∃ xh, bs (sha (hbs (sb s) k RB)) = xh := ⟨_, rfl⟩
      rw [hxh] at H h32 ho32
      have HXH := Lib.hid hxh
      have z32 : Hid ((bs (List.replicate 32 0)).length = 32) := Lib.hid (by simp [bs_len])
      obtain ⟨zr, hzr⟩ : ∃ zr, bs (List.replicate 32 0) = zr := ⟨_, rfl⟩
      rw [hzr] at A8 z32
      clear hxh hzr
      go_wp2_with fail
      refine H.out.mono ?_
      rintro e w11 ⟨rfl, b11⟩
      have A11 := Lib.hid (A8.out.on b11)
      have B11 := Lib.hid (bel_tr B8.out b11)
      clear H A8 B8 b11
      go_wp2_with (refine law_store (ty := 28) gr 0 _ zr.toArray xh rfl rfl A11.out (by rw [List.size_toArray, h32.out, z32.out]; omega) (by rw [size_hash, h32.out]) ho32.out ?_; intro w12 P12)
      have L12 := P12.at_
      rw [put_all _ _ (by rw [h32.out, z32.out])] at L12
      refine ret_cell (ty := 28) rfl gr _ xh _ rfl L12 under_hash rfl (by rw [size_hash, h32.out]) rfl ⟨by rw [HXH.out], B11.out.grown P12.grown (by have := B11.out.size; omega) (by have := GR.out; simp; omega)⟩
end Go.Proofs.YtkmjfaaelkmnkaaDoor
