/-
  What is hashed, put together: by the document's own Bytes, by the statements' own bytes.
-/
import Derived.Test.YtkmjfaaelkmnkaaDoorMConcat
import Derived.Test.YtkmjfaaelkmnkaaDoorMOpenR
import Derived.Test.YtkmjfaaelkmnkaaDoorMRNum
namespace Go.Proofs.YtkmjfaaelkmnkaaDoor
open Go.RowKit
set_option linter.unusedSimpArgs false
set_option linter.unusedVariables false
set_option maxRecDepth 100000

set_option maxHeartbeats 2000000 in
theorem lbytes_ok (s : ByteArray) (A : Option Addr) (n c : Nat) (RA : Nat → Option Addr) (RL RC : Nat → Nat) (RB : Nat → List Nat) (w : World) (hs : s.size ≤ 1000000) (hT : (cat (fun j => putB (RB j)) n).length ≤ 1000000) (hn : n ≤ 1000000)
    (hR : Rows2 w A n c RA RL RC RB) :
    Calls Tryd.prog 21 #[.string s, .slice A n c] w fun e w' => ∃ v, e = .returned v ∧ w'.ownsRow w.heap.size 5 1 v (hbs (sb s) n RB).length (bs (hbs (sb s) n RB)) ∧ Below w.heap.size w w' := by
  have HR := Lib.hid hR
  have HT := Lib.hid hT
  clear hR hT
  go_enter Tryd.func21, Tryd.ntmps21
  go_wp2_with (refine law_convS (d := 8) s rfl ?_; intro w3 c3 N3; have H3 := Lib.hid N3; clear N3)
  refine (putBytes_any none _ 0 0 s.size c3 [] (sb s) w3 (by omega) (by omega) (fun _ => ⟨rfl, rfl⟩) (Rd.nil _ _) (by omega) (fun h => by cases h) H3.out.rd).mono ?_
  rintro e w4 ⟨v4, rfl, o4, b4⟩
  simp only [Nat.zero_add, List.nil_append] at o4
  have B4 := Lib.hid (bel_tr H3.out.bel b4)
  have z3 := H3.out.size
  obtain ⟨A4, c4, rfl, k41, k42, r4, nil4, far4⟩ := src_of (g := w.heap.size) o4 (by omega)
  clear o4 b4 far4 H3 z3
  have R4 := Lib.hid r4
  have N4 := Lib.hid nil4
  have K41 := Lib.hid k41
  have K42 := Lib.hid k42
  clear r4 nil4 k41 k42
  have hwn : IntKind.u64.wrap (n : Int) = (n : Int) := by rw [IntKind.wrap_u64]; omega
  go_wp2_with fail
  clear hwn
  refine (put_any A4 (4 + s.size) c4 4 n 4 (putB (sb s)) w4 (by omega) (by omega) K41.out N4.out R4.out (by omega)).mono ?_
  rintro e w6 ⟨rfl, o6, b6⟩
  have B6 := Lib.hid (bel_tr B4.out b6)
  have O6 : Hid (w6.ownsRow w.heap.size 5 1 (.slice (some ⟨w4.heap.size + 1, 0, none⟩) (4 + s.size + 4) (4 + s.size + 4)) (putB (sb s) ++ (be 4 n ++ cat (fun j => putB (RB j)) 0)).length (bs (putB (sb s) ++ (be 4 n ++ cat (fun j => putB (RB j)) 0)))) := Lib.hid (by
    have e1 : putB (sb s) ++ (be 4 n ++ cat (fun j => putB (RB j)) 0) = putB (sb s) ++ be 4 n := by simp [cat]
    have e2 : (putB (sb s) ++ be 4 n).length = 4 + s.size + 4 := by simp [putB_len, be_len, sb_len]
    rw [e1, e2]
    exact own_on o6 (Below.refl _ _) (by have := B4.out.size; omega))
  clear o6 b6 B4 R4 N4 K41 K42
  go_wp2_with fail
  go_loopw [5, 6] (fun bv i' wr => ∃ k : Nat, k ≤ n ∧ i' = .int .i64 k ∧ Hid (wr.ownsRow w.heap.size 5 1 bv (putB (sb s) ++ (be 4 n ++ cat (fun j => putB (RB j)) k)).length (bs (putB (sb s) ++ (be 4 n ++ cat (fun j => putB (RB j)) k)))) ∧ Hid (Below w.heap.size w wr)) (fun _ i' _ => n - (intOf i').toNat)
  case atStart => exact ⟨0, by omega, rfl, O6, B6⟩
  case round =>
    obtain ⟨k, hk, rfl, O8, B8⟩ := hrel
    clear O6 B6
    have R8 := Lib.hid (HR.out.below B8.out)
    by_cases hlt : k < n
    · have hlt' : (k : Int) < (n : Int) := by omega
      obtain ⟨b, o, rfl, hbl, hcell⟩ := R8.out.cell k hlt
      have hc1 := cat_le (fun j => putB (RB j)) (show k + 1 ≤ n by omega)
      have hT := HT.out
      have hrl : RL k ≤ 1000000 ∧ (putB (sb s) ++ (be 4 n ++ cat (fun j => putB (RB j)) k)).length ≤ 3000000 := by
        have h2 := (R8.out.rd k hlt).1
        rw [bs_len] at h2
        simp only [cat, List.length_append, putB_len, be_len, sb_len] at hc1 hT ⊢
        omega
      have hrl2 := hrl.1
      have hpl := hrl.2
      clear hrl hc1 hT
      have HRD := Lib.hid (R8.out.rd k hlt)
      have HNIL := Lib.hid (R8.out.rnil k hlt)
      have HST : Hid (putB (sb s) ++ (be 4 n ++ cat (fun j => putB (RB j)) k) ++ putB (RB k) = putB (sb s) ++ (be 4 n ++ cat (fun j => putB (RB j)) (k + 1))) := Lib.hid (by simp [cat, List.append_assoc])
      have HSL : Hid ((putB (sb s) ++ (be 4 n ++ cat (fun j => putB (RB j)) k)).length + (4 + RL k) = (putB (sb s) ++ (be 4 n ++ cat (fun j => putB (RB j)) (k + 1))).length) := Lib.hid (by
        have h2 := (R8.out.rd k hlt).1
        rw [bs_len] at h2
        rw [← HST.out, List.length_append (bs := putB (RB k)), putB_len, h2])
      obtain ⟨pre, hpre⟩ : ∃ x, putB (sb s) ++ (be 4 n ++ cat (fun j => putB (RB j)) k) = x := ⟨_, rfl⟩
      rw [hpre] at O8 HST HSL hpl
      clear hpre
      generalize RA k = ra at *
      generalize RL k = rl at *
      generalize RC k = rc at *
      generalize RB k = rb at *
      obtain ⟨pn, hpn⟩ : ∃ x, pre.length = x := ⟨_, rfl⟩
      rw [hpn] at O8 HSL hpl
      clear hpn
      obtain ⟨A8, c8, rfl, k81, k82⟩ := own_form O8.out
      have R9 := Lib.hid (Rd.own O8.out)
      have N9 : Hid (A8 = none → pn = 0 ∧ c8 = 0) := Lib.hid (own_nil O8.out)
      clear O8 R8
      unfold maxLen at k82
      have K1 := Lib.hid k81
      have K2 := Lib.hid k82
      clear k81 k82
      go_wp2_with fail
      refine (putBytes_any A8 ra pn c8 rl rc pre rb _ (by omega) K1.out N9.out R9.out (by omega) HNIL.out HRD.out).mono ?_
      rintro e w9 ⟨v9, rfl, o9, b9⟩
      rw [HSL.out, HST.out] at o9
      have O9 := Lib.hid (own_on o9 (Below.refl _ _) (show w.heap.size ≤ _ by have := B8.out.size; omega))
      have B9 := Lib.hid (bel_tr B8.out b9)
      clear o9 b9 B8 R9 N9 HRD K1 K2
      go_wp2
      go_roundw
      case rel => exact ⟨k + 1, by omega, by go_num, O9, B9⟩
      case measure => simp [intOf]; omega
    · obtain rfl : k = n := by omega
      have hlt' : ¬ (k : Int) < (k : Int) := by omega
      have O8' : Hid (_ ∧ _) := Lib.hid ⟨O8.out, B8.out⟩
      clear O8 B8 R8
      go_wp2
      go_ret
      exact ⟨_, rfl, O8'.out.1, O8'.out.2⟩
end Go.Proofs.YtkmjfaaelkmnkaaDoor
