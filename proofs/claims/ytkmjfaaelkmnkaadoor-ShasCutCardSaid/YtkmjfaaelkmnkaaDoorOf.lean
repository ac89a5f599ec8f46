/-
  shas.Of.
-/
import Derived.Test.YtkmjfaaelkmnkaaDoorHash
namespace Go.Proofs.YtkmjfaaelkmnkaaDoor
open Go.RowKit
set_option linter.unusedSimpArgs false
set_option linter.unusedVariables false

set_option maxRecDepth 100000 in
theorem of_ok (A : Option Addr) (n c : Nat) (l : List Nat) (w : World) (hr : Rd w A n (bs l)) (hnc : n ≤ c) (hcm : c ≤ 9223372036854775807) (hb : ∀ y ∈ l, y < 256) (T : Tabs w) (hn : n < 549755813888) :
    Calls Tryd.prog 12 #[.slice A n c] w fun e w' => e = .returned (.agg (bs (sha l)).toArray) ∧ Below w.heap.size w w' := by
  have HR := Lib.hid hr
  have HB := Lib.hid hb
  have HT := Lib.hid T
  have hw1 := T.lt1
  have hln : l.length = n := by have := hr.1; rwa [bs_len] at this
  have HLN := Lib.hid hln
  clear hr hb T hln
  go_enter Tryd.func12, Tryd.ntmps12
  go_wp2_with (refine law_alloc (d := 2) (ty := 28) _ zero_hash ?_; intro w1 N1)
  have T1 := Lib.hid (HT.out.on N1.bel)
  have R1 := Lib.hid (HR.out.below N1.bel)
  have A1 := Lib.hid N1.at_
  have B1 := Lib.hid N1.bel
  have Z1 := Lib.hid N1.size
  clear N1
  obtain ⟨gr, hgr⟩ : ∃ x, w.heap.size = x := ⟨_, rfl⟩
  have GR := Lib.hid hgr
  rw [hgr] at A1 hw1 Z1 ⊢
  clear hgr
  refine (new_ok w1 T1.out).mono ?_
  rintro e w2 ⟨rfl, s2, b2⟩
  have T2 := Lib.hid (T1.out.on b2)
  have R2 := Lib.hid (R1.out.below b2)
  have A2 := Lib.hid (A1.out.on b2)
  have B2 := Lib.hid (bel_tr B1.out b2)
  obtain ⟨g, hg⟩ : ∃ x, w1.heap.size = x := ⟨_, rfl⟩
  have hgg : g = gr + 1 := by rw [← hg, Z1.out]
  have far : ∀ b o, A = some ⟨b, o, none⟩ → 0 < n → b ≠ g := by
    intro b o e hp
    obtain ⟨b', o', e', hb', _⟩ := HR.out.spot hp
    rw [e'] at e
    injection e with e
    injection e with e1 _
    have := GR.out
    omega
  rw [hg] at s2 ⊢
  have gne : gr < g := by omega
  have W := Lib.hid (write_any g A n c [] l w2 s2 R2.out hnc hcm far HB.out T2.out (by omega) (by omega) (by simp; omega))
  clear s2 b2 T1 R1 A1 B1 hg hgg Z1 far R2
  go_wp2_with fail
  refine W.out.mono ?_
  rintro e w3 ⟨rfl, s3, g3⟩
  rw [List.nil_append] at s3
  have T3 := Lib.hid (T2.out.grown g3 (by omega) (by omega))
  have A3 := Lib.hid (A2.out.grown g3 (by simp; omega))
  have B3 : Hid (Below w.heap.size w w3) := Lib.hid (B2.out.grown g3 (by have := B2.out.size; omega) (by have := GR.out; simp; omega))
  have H := Lib.hid (hash_ok g l w3 s3 T3.out (by rw [HLN.out]; exact hn))
  have h32 : Hid ((bs (sha l)).length = 32) := Lib.hid (by rw [bs_len, sha_len])
  have ho32 := Lib.hid (bs_one (sha l))
  obtain ⟨xh, hxh⟩ : ∃ xh, bs (sha l) = xh := ⟨_, rfl⟩
  rw [hxh] at H h32 ho32
  have HXH := Lib.hid hxh
  have z32 : Hid ((bs (List.replicate 32 0)).length = 32) := Lib.hid (by simp [bs_len])
  obtain ⟨zr, hzr⟩ : ∃ zr, bs (List.replicate 32 0) = zr := ⟨_, rfl⟩
  rw [hzr] at A3 z32
  clear s3 g3 W T2 A2 B2 hxh hzr
  go_wp2_with fail
  refine H.out.mono ?_
  rintro e w4 ⟨rfl, b4⟩
  have A4 := Lib.hid (A3.out.on b4)
  have B4 := Lib.hid (bel_tr B3.out b4)
  clear H A3 B3 b4
  go_wp2_with (refine law_store (ty := 28) gr 0 _ zr.toArray xh rfl rfl A4.out (by rw [List.size_toArray, h32.out, z32.out]; omega) (by rw [size_hash, h32.out]) ho32.out ?_; intro w8 P8)
  have L8 := P8.at_
  rw [put_all _ _ (by rw [h32.out, z32.out])] at L8
  refine ret_cell (ty := 28) rfl gr _ xh _ rfl L8 under_hash rfl (by rw [size_hash, h32.out]) rfl ⟨by rw [HXH.out], B4.out.grown P8.grown (by have := B4.out.size; omega) (by have := GR.out; simp; omega)⟩
end Go.Proofs.YtkmjfaaelkmnkaaDoor
