/-
  shas.Hash, shas.Of: what has been written, ended and told.
-/
import Derived.Test.YtkmjfaaelkmnkaaDoorWrite
namespace Go.Proofs.YtkmjfaaelkmnkaaDoor
open Go.RowKit
set_option linter.unusedSimpArgs false
set_option linter.unusedVariables false

theorem zero_sum : (Tryd.prog.info? 67).map (·.zero) = some (some (.agg (sumC false 0 (List.replicate 8 0) (List.replicate 64 0)).toArray)) := by kernel_rfl
theorem under_sum : ∃ td, Tryd.prog.underlying 67 = some td ∧ td.isRow = true := ⟨_, Tryd.underlying67, rfl⟩
theorem sumC_one (m : Bool) (n : Nat) (S B : List Nat) : ∀ u ∈ sumC m n S B, u.oneCell' = true := by
  intro u hu
  simp only [sumC, List.mem_cons, List.mem_append] at hu
  rcases hu with rfl | rfl | hu | hu
  · rfl
  · rfl
  · exact hs_one _ u hu
  · exact bs_one _ u hu

/-- Write, where an empty slice may lie anywhere -/
theorem write_any (g : Nat) (A : Option Addr) (n c : Nat) (l m : List Nat) (w : World) (hs : SumAt w g (l)) (hr : Rd w A n (bs m)) (hnc : n ≤ c) (hcm : c ≤ 9223372036854775807) (far : ∀ b o, A = some ⟨b, o, none⟩ → 0 < n → b ≠ g) (hb : ∀ y ∈ m, y < 256) (T : Tabs w) (h0 : g ≠ 0) (h1 : g ≠ 1) (hl : l.length + n < 1099511627776) :
    Calls Tryd.prog 11 #[.pointer (some ⟨g, 0, none⟩), .slice A n c] w fun e w' => e = .returned (.int .i64 0) ∧ SumAt w' g (l ++ m) ∧ w.grownBy w' (some g) := by
  by_cases hn : 0 < n
  · exact write_ok g A n c l m w hs ⟨hr, hnc, hcm, fun b o e => far b o e hn⟩ hb T h0 h1 hl
  · obtain rfl : n = 0 := by omega
    obtain rfl : m = [] := List.eq_nil_of_length_eq_zero (by have := hr.1; rwa [bs_len] at this)
    rw [List.append_nil]
    have hmade : w.cell? ⟨g, 0, none⟩ = some (.bool true) := by obtain ⟨B, _, _, hat, _⟩ := hs; rw [hat.cell]; rfl
    have AB := Lib.hid (absent_no g w hmade)
    have HS := Lib.hid hs
    clear hmade hs hr
    go_enter Tryd.func11, Tryd.ntmps11
    go_wp2_with (go_at_call 31; refine AB.out.mono ?_; rintro e w' ⟨rfl, rfl⟩)
    refine wp_loop_rounds 1 ?_
    rw [rounds_succ]
    go_wp2
    go_ret
    exact ⟨rfl, HS.out, grown_rf _ _⟩
set_option maxRecDepth 100000 in
set_option maxHeartbeats 4000000 in
theorem hash_ok (g : Nat) (l : List Nat) (w : World) (hs0 : SumAt w g l) (T : Tabs w) (hl : l.length < 549755813888) :
    Calls Tryd.prog 10 #[.pointer (some ⟨g, 0, none⟩)] w fun e w' => e = .returned (.agg (bs (sha l)).toArray) ∧ Below w.heap.size w w' := by
  have HS := Lib.hid hs0
  have HT := Lib.hid T
  have hw1 := T.lt1
  obtain ⟨td, hu, hd⟩ := under_sum
  clear hs0 T
  go_enter Tryd.func10, Tryd.ntmps10
  go_wp2_with (refine law_alloc (d := 2) (ty := 28) _ zero_hash ?_; intro w1 N1)
  have S1 := Lib.hid (HS.out.on N1.bel)
  have T1 := Lib.hid (HT.out.on N1.bel)
  have A1 := Lib.hid N1.at_
  have B1 := Lib.hid N1.bel
  have Z1 := Lib.hid N1.size
  have hgl := HS.out.lt
  clear N1
  obtain ⟨gr, hgr⟩ : ∃ x, w.heap.size = x := ⟨_, rfl⟩
  have GR := Lib.hid hgr
  rw [hgr] at A1 ⊢
  rw [hgr] at hw1 hgl Z1
  clear hgr
  obtain ⟨B, hB, hBb, hat, hBt⟩ := S1.out
  have hmade : w1.cell? ⟨g, 0, none⟩ = some (.bool true) := by rw [hat.cell]; rfl
  refine (absent_no g w1 hmade).mono ?_
  rintro e w' ⟨rfl, rfl⟩
  have hlen := sumC_len true l.length (run init l (l.length / 64)).list B rfl hB
  have c1 : w1.cell? ⟨g, 1, none⟩ = some (.int .u64 (l.length : Nat)) := by rw [hat.cell]; rfl
  obtain ⟨xs, hxs⟩ : ∃ xs, sumC true l.length (run init l (l.length / 64)).list B = xs := ⟨_, rfl⟩
  have ho : Hid (∀ u ∈ xs, u.oneCell' = true) := Lib.hid (by rw [← hxs]; exact sumC_one _ _ _ _)
  have HXS := Lib.hid hxs
  rw [hxs] at hat hlen
  have HL := Lib.hid hlen
  have HAT := Lib.hid hat
  have HBB := Lib.hid hBb
  have HBT := Lib.hid hBt
  have HB := Lib.hid hB
  clear hmade hat hlen hxs hBb hBt hB S1
  have zs : Hid ((sumC false 0 (List.replicate 8 0) (List.replicate 64 0)).length = 74) := Lib.hid rfl
  obtain ⟨zz, hzz⟩ : ∃ zz, sumC false 0 (List.replicate 8 0) (List.replicate 64 0) = zz := ⟨_, rfl⟩
  have ZS := zero_sum
  rw [hzz] at zs ZS
  have ZSH := Lib.hid ZS
  clear hzz ZS
  go_wp2_with (first | (refine law_load (ty := 67) g 0 xs td rfl HAT.out.all hu hd (by rw [size_sum, HL.out]) ?_) | (refine law_alloc (d := 3) (ty := 67) _ ZSH.out ?_; intro w3 N3; have H3 := Lib.hid N3; clear N3; refine law_store (ty := 67) w1.heap.size 0 _ zz.toArray xs rfl rfl H3.out.at_ (by rw [List.size_toArray, HL.out, zs.out]; omega) (by rw [size_sum, HL.out]) ho.out ?_; intro w4 P4; have H4 := Lib.hid P4; have c4 : w4.cell? ⟨g, 1, none⟩ = some (.int .u64 (l.length : Nat)) := ((((HAT.out.on H3.out.bel).grown P4.grown (by have := Z1.out; simp; omega)).cell 1).trans ((HAT.out.cell 1).symm.trans c1)); clear P4))
  have z3 := H3.out.size
  have z1 := Z1.out
  have L4 : At w4 w1.heap.size 67 xs.toArray := by have h := H4.out.at_; rwa [put_all _ _ (by rw [HL.out, zs.out])] at h
  have S4 : Hid (SumAt w4 w1.heap.size l) := Lib.hid ⟨B, HB.out, HBB.out, by rw [HXS.out]; exact L4, HBT.out⟩
  have G4 := H4.out.grown
  have T4 : Hid (Tabs w4) := Lib.hid ((T1.out.on H3.out.bel).grown G4 (by omega) (by omega))
  have R4 : Hid (At w4 gr 28 (bs (List.replicate 32 0)).toArray) := Lib.hid ((A1.out.on H3.out.bel).grown G4 (by simp; omega))
  have B4 : Hid (Below w.heap.size w w4) := Lib.hid ((bel_tr B1.out H3.out.bel).grown G4 (by have := B1.out.size; have := H3.out.bel.size; omega) (by have := GR.out; simp; omega))
  have hs4 := S4.out.lt
  clear c1 c4 H3 H4 L4 G4 HAT HXS ho HBB HBT HB zs ZSH A1 B1 T1 hgl
  obtain ⟨ge, hge⟩ : ∃ x, w1.heap.size = x := ⟨_, rfl⟩
  rw [hge] at S4 z1 hs4 z3 ⊢
  have dge : gr < ge := by omega
  clear hge z1 z3 Z1
  refine (ending_ok l.length (by omega) w4).mono ?_
  rintro e w5 ⟨gz, hgz, rfl, hz, hb5⟩
  have S5 := Lib.hid (S4.out.on hb5)
  have T5 := Lib.hid (T4.out.on hb5)
  have R5 := Lib.hid (R4.out.on hb5)
  have B5 := Lib.hid (bel_tr B4.out hb5)
  have W := Lib.hid (write_ok ge (some ⟨gz, 0, none⟩) (noughts l.length + 9) (noughts l.length + 9) l (tail l.length) w5 S5.out ⟨hz, Nat.le_refl _, by have : noughts l.length < 64 := Nat.mod_lt _ (by decide); omega, fun b o e => by injection e with e; injection e with e1 _; omega⟩ (tail_lt _) T5.out (by omega) (by omega) (by have : noughts l.length < 64 := Nat.mod_lt _ (by decide); omega))
  clear hz hb5 S4 T4 R4 B4 S5
  go_wp2_with fail
  refine W.out.mono ?_
  rintro e w6 ⟨rfl, s6, g6⟩
  have T6 := Lib.hid (T5.out.grown g6 (by omega) (by omega))
  have R6 := Lib.hid (R5.out.grown g6 (by simp; omega))
  have B6 : Hid (Below w.heap.size w w6) := Lib.hid (B5.out.grown g6 (by have := B5.out.size; omega) (by have := GR.out; simp; omega))
  obtain ⟨Bz, hBz, hBzb, hatz, _⟩ := s6
  obtain ⟨so, hso⟩ : ∃ so, run init (l ++ tail l.length) ((l ++ tail l.length).length / 64) = so := ⟨_, rfl⟩
  have hok := run_ok init_ok (l ++ tail l.length) ((l ++ tail l.length).length / 64)
  have hsha : sha l = so.list.flatMap (be 4) := by rw [← hso, sha, List.length_append, tail_len]
  rw [hso] at hatz hok
  have HSHA := Lib.hid hsha
  have hrg : w6.rangeAt ge 2 (hs so.list) := hatz.range _ (fun j v hv => by
    rw [List.getElem?_toArray, show 2 + j = j + 2 by omega]
    show (hs so.list ++ bs Bz)[j]? = some v
    rw [List.getElem?_append_left (List.getElem?_eq_some_iff.1 hv).1]; exact hv)
  have h8 : (hs so.list).length = 8 := by rw [hs_len]; rfl
  have TD := Lib.hid (told_ok so hok w6)
  obtain ⟨x8, hx8⟩ : ∃ x8, hs so.list = x8 := ⟨_, rfl⟩
  rw [hx8] at hrg h8 TD
  have h32 : (bs (so.list.flatMap (be 4))).length = 32 := by rw [bs_len, told_len]; rfl
  have ho32 := bs_one (so.list.flatMap (be 4))
  obtain ⟨xh, hxh⟩ : ∃ xh, bs (so.list.flatMap (be 4)) = xh := ⟨_, rfl⟩
  rw [hxh] at TD h32 ho32
  have HXH := Lib.hid hxh
  have HRG := Lib.hid hrg
  have H8 := Lib.hid h8
  have H32 := Lib.hid h32
  have HO32 := Lib.hid ho32
  clear hatz hBzb hBz hso hok hsha hrg h8 hx8 hxh h32 ho32 W T5 R5 B5 g6 T6
  go_wp2_with (refine law_load (ty := 64) ge 2 x8 _ rfl HRG.out under_eight rfl (by rw [size_eight, H8.out]) ?_)
  refine TD.out.mono ?_
  rintro e w7 ⟨rfl, b7⟩
  have R7 := Lib.hid (R6.out.on b7)
  have B7 := Lib.hid (bel_tr B6.out b7)
  have z32 : Hid ((bs (List.replicate 32 0)).length = 32) := Lib.hid (by simp [bs_len])
  obtain ⟨zr, hzr⟩ : ∃ zr, bs (List.replicate 32 0) = zr := ⟨_, rfl⟩
  rw [hzr] at R7 z32
  clear R6 B6 b7 TD hzr HRG
  go_wp2_with (refine law_store (ty := 28) gr 0 _ zr.toArray xh rfl rfl R7.out (by rw [List.size_toArray, H32.out, z32.out]; omega) (by rw [size_hash, H32.out]) HO32.out ?_; intro w8 P8)
  have L8 := P8.at_
  rw [put_all _ _ (by rw [H32.out, z32.out])] at L8
  refine ret_cell (ty := 28) rfl gr _ xh _ rfl L8 under_hash rfl (by rw [size_hash, H32.out]) rfl ⟨by rw [HSHA.out, HXH.out], B7.out.grown P8.grown (by have := B7.out.size; omega) (by have := GR.out; simp; omega)⟩
end Go.Proofs.YtkmjfaaelkmnkaaDoor
