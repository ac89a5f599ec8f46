/-
  shas.ending: what follows so many bytes, so that all are whole blocks.
-/
import Derived.Test.YtkmjfaaelkmnkaaDoorTold
namespace Go.Proofs.YtkmjfaaelkmnkaaDoor
open Go.RowKit
set_option linter.unusedSimpArgs false
set_option linter.unusedVariables false

theorem made_bytes (n : Nat) : (madeCells #[Value.int IntKind.u8 0] n).toList = bs (List.replicate n 0) := by
  apply List.ext_getElem
  · simp [madeCells, bs]
  · intro i h1 h2
    simp [madeCells, bs, Value.cells, Nat.mod_one]
set_option maxRecDepth 100000 in
theorem ending_ok (n : Nat) (hn : n < 1099511627776) (w : World) :
    Calls Tryd.prog 32 #[.int .u64 (n : Nat)] w fun e w' => ∃ g, w.heap.size ≤ g ∧ e = .returned (.slice (some ⟨g, 0, none⟩) (noughts n + 9) (noughts n + 9)) ∧ Rd w' (some ⟨g, 0, none⟩) (noughts n + 9) (bs (tail n)) ∧ Below w.heap.size w w' := by
  obtain ⟨i0, hi, hz0, hz1, hz2⟩ := info_parts Tryd.info5
  obtain ⟨r, hr⟩ : ∃ r, n % 64 = r := ⟨_, rfl⟩
  obtain ⟨q, hq⟩ : ∃ q, noughts n = q := ⟨_, rfl⟩
  have hrl : r < 64 := by omega
  have hql : q < 64 := by rw [← hq]; unfold noughts; omega
  have HQ : Hid (q = (128 - (r + 9)) % 64) := Lib.hid (by rw [← hq, ← hr]; rfl)
  have HT := Lib.hid (show tail n = (128 :: List.replicate q 0) ++ be 8 (8 * n) by rw [tail, hq])
  rw [hq]
  have F1 : Int.tmod (n : Int) 64 = (r : Int) := by rw [← hr]; exact Int.ofNat_tmod n 64
  have F2 : IntKind.u64.wrap (r : Int) = (r : Int) := by rw [IntKind.wrap_u64]; omega
  clear hr hq
  go_enter Tryd.func32, Tryd.ntmps32
  go_wp2_with (at_make; refine wpList_make_full _ rfl _ _ 22 rfl w.heap.size 5 i0 (.int .u8 0) 1 Tryd.underlying22 hi hz0 hz1 _ _ _ _ (q + 1) rfl rfl ?hL ?hC ?b2 ?b3 (Nat.le_refl _) ?_)
  case hL => have := HQ.out; omega
  case hC => have := HQ.out; omega
  case b2 => rw [hz2]; omega
  case b3 => unfold maxLen; omega
  intro w0 hown0 hgrow0
  have hb0 : Below w.heap.size w w0 := (Below.refl _ _).grown hgrow0 (Nat.le_refl _) (by simp)
  rw [made_bytes] at hown0
  obtain ⟨cur, hat, _, _, _, hsz, htk⟩ := own_at hown0
  rw [List.take_of_length_le (by simp; omega)] at htk
  have hcur : cur = (bs (List.replicate (q + 1) 0)).toArray := by rw [← htk]
  subst hcur
  have c0 : w0.cell? ⟨w.heap.size, 0, none⟩ = some (.int .u8 0) := by rw [hat.cell]; simp [bs, List.replicate_succ]
  have f0 := hat.frozen 0
  have LG := hat.lt
  have HAT := Lib.hid hat
  have HB0 := Lib.hid hb0
  obtain ⟨g, hg⟩ : ∃ g, g = w.heap.size := ⟨_, rfl⟩
  rw [← hg] at c0 f0 LG HAT ⊢
  have EG : w.heap.size ≤ g := by omega
  clear hown0 hgrow0 hb0 hat hsz htk hg
  have hpos : (0 : Int) < (q : Int) + 1 := by omega
  have hAt2 : Hid (At (w0.setCell ⟨g, 0, none⟩ (.int .u8 128)) g 5 (bs (128 :: List.replicate q 0)).toArray) := Lib.hid (by
    have h := HAT.out.set 0 (.int .u8 (128 : Nat))
    rw [List.setIfInBounds_toArray, bs_set, List.replicate_succ, List.set_cons_zero] at h
    exact h)
  have HB2 : Hid (Below w.heap.size w (w0.setCell ⟨g, 0, none⟩ (.int .u8 128))) := Lib.hid (HB0.out.setCell EG _)
  have C := Lib.hid (put_any (some ⟨g, 0, none⟩) (q + 1) (q + 1) 8 (8 * n) 8 (128 :: List.replicate q 0) (w0.setCell ⟨g, 0, none⟩ (.int .u8 128)) (.inr (.inl ⟨by decide, by decide, rfl⟩)) (by omega) (Nat.le_refl _) (fun h => by cases h)
    (by have := hAt2.out.rdB 0 (Nat.zero_le _); simpa [Nat.add_comm] using this) (by omega))
  have m8 : IntKind.u64.wrap (8 * (n : Int)) = ((8 * n : Nat) : Int) := by rw [IntKind.wrap_u64]; omega
  clear HAT HB0
  go_wp2_with fail
  rw [show (8 : Int) * (n : Int) = ((8 * n : Nat) : Int) by omega]
  refine C.out.mono ?_
  rintro e w' ⟨rfl, hown, hb⟩
  have hR := Rd.own hown
  rw [← HT.out] at hR
  have hle : w.heap.size ≤ (w0.setCell ⟨g, 0, none⟩ (.int .u8 128)).heap.size + 1 := by have := HB2.out.size; omega
  clear C hAt2 hown
  go_wp2
  go_ret
  have es : (w0.setCell ⟨g, 0, none⟩ (.int .u8 128)).heap.size = w0.heap.size := by simp [World.setCell]
  rw [es] at hR hle
  refine ⟨_, hle, ?_, hR, bel_tr HB2.out hb⟩
  show Ending.returned (Value.slice (some ⟨_, 0, none⟩) (q + 1 + 8) (q + 1 + 8)) = _
  rw [show q + 1 + 8 = q + 9 by omega]
end Go.Proofs.YtkmjfaaelkmnkaaDoor
