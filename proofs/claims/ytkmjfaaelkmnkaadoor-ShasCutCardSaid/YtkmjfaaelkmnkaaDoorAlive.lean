/-
  The statements' helper alive: some answers that the document fixes.
-/
import Derived.Test.YtkmjfaaelkmnkaaDoorText
import Derived.Lib.SlBytesConst
namespace Go.Proofs.YtkmjfaaelkmnkaaDoor
open Go.RowKit
set_option linter.unusedSimpArgs false
set_option linter.unusedVariables false

def txt0 : ByteArray := ⟨#[101, 51, 98, 48, 99, 52, 52, 50, 57, 56, 102, 99, 49, 99, 49, 52, 57, 97, 102, 98, 102, 52, 99, 56, 57, 57, 54, 102, 98, 57, 50, 52, 50, 55, 97, 101, 52, 49, 101, 52, 54, 52, 57, 98, 57, 51, 52, 99, 97, 52, 57, 53, 57, 57, 49, 98, 55, 56, 53, 50, 98, 56, 53, 53]⟩
def txt3 : ByteArray := ⟨#[98, 97, 55, 56, 49, 54, 98, 102, 56, 102, 48, 49, 99, 102, 101, 97, 52, 49, 52, 49, 52, 48, 100, 101, 53, 100, 97, 101, 50, 50, 50, 51, 98, 48, 48, 51, 54, 49, 97, 51, 57, 54, 49, 55, 55, 97, 57, 99, 98, 52, 49, 48, 102, 102, 54, 49, 102, 50, 48, 48, 49, 53, 97, 100]⟩
set_option maxRecDepth 100000 in
theorem sha_none : hexS (sha []) 32 = txt0 := by kernel_rfl
set_option maxRecDepth 100000 in
theorem sha_abc : hexS (sha [97, 98, 99]) 32 = txt3 := by kernel_rfl
theorem text_zero (w : World) : Calls Tryd.prog 30 #[.agg (bs (sha [])).toArray] w fun e w' => e = .returned (.string txt0) ∧ Below w.heap.size w w' := by
  have h := text_ok (sha []) (sha_len _) (sha_lt _) w
  rwa [sha_none] at h
theorem text_three (w : World) : Calls Tryd.prog 30 #[.agg (bs (sha [97, 98, 99])).toArray] w fun e w' => e = .returned (.string txt3) ∧ Below w.heap.size w w' := by
  have h := text_ok (sha [97, 98, 99]) (sha_len _) (sha_lt _) w
  rwa [sha_abc] at h
theorem Rd.marked (w : World) (t : TypeId) (fr : Nat × Nat) (xs : List Value) (h : 0 < xs.length) : Rd (w.alloc (.cells xs.toArray t fr)) (some ⟨w.heap.size, 0, none⟩) xs.length xs := by
  refine ⟨rfl, fun _ => ⟨_, 0, rfl, by simp, fun j u hu => ?_⟩⟩
  rw [Nat.zero_add, cell_of_row _ w.heap.size j xs.toArray t fr (heap_alloc_new w _)]
  simpa using hu
theorem abc_lt : ∀ y ∈ [97, 98, 99], y < 256 := by decide
theorem of_abc (w : World) (T : Tabs w) (g : Nat) (hr : Rd w (some ⟨g, 0, none⟩) 3 [.int .u8 97, .int .u8 98, .int .u8 99]) : Calls Tryd.prog 12 #[.slice (some ⟨g, 0, none⟩) 3 3] w fun e w' => e = .returned (.agg (bs (sha [97, 98, 99])).toArray) ∧ Below w.heap.size w w' := by
  exact of_ok _ 3 3 [97, 98, 99] w (by simpa [bs] using hr) (Nat.le_refl _) (by omega) abc_lt T (by omega)

set_option maxRecDepth 100000 in
theorem alive_ok (w : World) (T : Tabs w) : Calls Tryd.prog 8 #[] w fun e w' => e = .returned (.bool true) ∧ Below w.heap.size w w' := by
  have HT := Lib.hid T
  have hw1 := T.lt1
  clear T
  have E0 : (⟨#[101, 51, 98, 48, 99, 52, 52, 50, 57, 56, 102, 99, 49, 99, 49, 52, 57, 97, 102, 98, 102, 52, 99, 56, 57, 57, 54, 102, 98, 57, 50, 52, 50, 55, 97, 101, 52, 49, 101, 52, 54, 52, 57, 98, 57, 51, 52, 99, 97, 52, 57, 53, 57, 57, 49, 98, 55, 56, 53, 50, 98, 56, 53, 53]⟩ : ByteArray) = txt0 := rfl
  have E3 : (⟨#[98, 97, 55, 56, 49, 54, 98, 102, 56, 102, 48, 49, 99, 102, 101, 97, 52, 49, 52, 49, 52, 48, 100, 101, 53, 100, 97, 101, 50, 50, 50, 51, 98, 48, 48, 51, 54, 49, 97, 51, 57, 54, 49, 55, 55, 97, 57, 99, 98, 52, 49, 48, 102, 102, 54, 49, 102, 50, 48, 48, 49, 53, 97, 100]⟩ : ByteArray) = txt3 := rfl
  have HE0 := Lib.hid E0
  have HE3 := Lib.hid E3
  clear E0 E3
  have kc := fun (w : World) (C : Array Value) (n c : Nat) => Lib.run_convert_bytes_const (P := Tryd.prog) w 22 5 C n c Tryd.underlying22 Tryd.underlying5
  go_enter Tryd.func8, Tryd.ntmps8
  go_wp2_with fail
  refine (new_ok w HT.out).mono ?_
  rintro e w1 ⟨rfl, s1, b1⟩
  obtain ⟨g, hg⟩ : ∃ x, w.heap.size = x := ⟨_, rfl⟩
  have HG := Lib.hid hg
  rw [hg] at s1 hw1 ⊢
  have T1 := Lib.hid (HT.out.on b1)
  have B1 := Lib.hid b1
  have S1 := Lib.hid s1
  clear s1 b1 hg
  have a1 := Rd.marked w1 5 (1, 2) (bs [97]) (by simp [bs])
  have c1 : Below w1.heap.size w1 (w1.alloc (.cells #[.int .u8 97] 5 (1, 2))) := gr_alloc (Below.refl _ _) _
  have hg1 := S1.out.lt
  have W1 := Lib.hid (write_any g (some ⟨w1.heap.size, 0, none⟩) 1 1 [] [97] _ (S1.out.on c1) (by simpa [bs] using a1) (by omega) (by omega) (fun b o e _ => by injection e with e; injection e with e1 _; omega) (by decide) (T1.out.on c1) (by omega) (by omega) (by simp))
  have B2 := Lib.hid (bel_tr B1.out c1)
  have T2 := Lib.hid (T1.out.on c1)
  clear a1 c1 S1 T1 B1
  go_wp2_with fail
  refine W1.out.mono ?_
  rintro e w2 ⟨rfl, s2, g2⟩
  rw [List.nil_append] at s2
  have S2 := Lib.hid s2
  have T3 := Lib.hid (T2.out.grown g2 (by omega) (by omega))
  have B3 : Hid (Below w.heap.size w w2) := Lib.hid (B2.out.grown g2 B2.out.size (by have := HG.out; simp; omega))
  clear s2 g2 W1 T2 B2 hg1
  have a1 := Rd.marked w2 5 (2, 3) (bs [98, 99]) (by simp [bs])
  have c1 : Below w2.heap.size w2 (w2.alloc (.cells #[.int .u8 98, .int .u8 99] 5 (2, 3))) := gr_alloc (Below.refl _ _) _
  have hg1 := S2.out.lt
  have W1 := Lib.hid (write_any g (some ⟨w2.heap.size, 0, none⟩) 2 2 [97] [98, 99] _ (S2.out.on c1) (by simpa [bs] using a1) (by omega) (by omega) (fun b o e _ => by injection e with e; injection e with e1 _; omega) (by decide) (T3.out.on c1) (by omega) (by omega) (by simp))
  have B4 := Lib.hid (bel_tr B3.out c1)
  have T4 := Lib.hid (T3.out.on c1)
  clear a1 c1 S2 T3 B3
  go_wp2_with fail
  refine W1.out.mono ?_
  rintro e w3 ⟨rfl, s3, g3⟩
  have S3 : Hid (SumAt w3 g [97, 98, 99]) := Lib.hid s3
  have T5 := Lib.hid (T4.out.grown g3 (by omega) (by omega))
  have B5 : Hid (Below w.heap.size w w3) := Lib.hid (B4.out.grown g3 B4.out.size (by have := HG.out; simp; omega))
  clear s3 g3 W1 T4 B4 hg1
  have ON := Lib.hid (of_ok none 0 0 [] w3 (Rd.nil _ _) (Nat.le_refl _) (by omega) (by simp) T5.out (by omega))
  have TX := Lib.hid text_zero
  have TY := Lib.hid text_three
  have OA := Lib.hid of_abc
  have EQ := eqH (sha [97, 98, 99]) (sha_len _)
  have HH := Lib.hid (fun (w : World) (S : SumAt w g [97, 98, 99]) (T : Tabs w) => hash_ok g [97, 98, 99] w S T (by simp))
  obtain ⟨x0, hx0⟩ : ∃ x, bs (sha []) = x := ⟨_, rfl⟩
  obtain ⟨x3, hx3⟩ : ∃ x, bs (sha [97, 98, 99]) = x := ⟨_, rfl⟩
  rw [hx0] at ON
  replace TX : Hid (∀ w, Calls Tryd.prog 30 #[.agg x0.toArray] w fun e w' => e = .returned (.string (⟨#[101, 51, 98, 48, 99, 52, 52, 50, 57, 56, 102, 99, 49, 99, 49, 52, 57, 97, 102, 98, 102, 52, 99, 56, 57, 57, 54, 102, 98, 57, 50, 52, 50, 55, 97, 101, 52, 49, 101, 52, 54, 52, 57, 98, 57, 51, 52, 99, 97, 52, 57, 53, 57, 57, 49, 98, 55, 56, 53, 50, 98, 56, 53, 53]⟩ : ByteArray)) ∧ Below w.heap.size w w') := Lib.hid (by rw [← hx0, HE0.out]; exact TX.out)
  replace TY : Hid (∀ w, Calls Tryd.prog 30 #[.agg x3.toArray] w fun e w' => e = .returned (.string (⟨#[98, 97, 55, 56, 49, 54, 98, 102, 56, 102, 48, 49, 99, 102, 101, 97, 52, 49, 52, 49, 52, 48, 100, 101, 53, 100, 97, 101, 50, 50, 50, 51, 98, 48, 48, 51, 54, 49, 97, 51, 57, 54, 49, 55, 55, 97, 57, 99, 98, 52, 49, 48, 102, 102, 54, 49, 102, 50, 48, 48, 49, 53, 97, 100]⟩ : ByteArray)) ∧ Below w.heap.size w w') := Lib.hid (by rw [← hx3, HE3.out]; exact TY.out)
  replace OA : Hid (∀ (w : World), Tabs w → ∀ (g : Nat), Rd w (some ⟨g, 0, none⟩) 3 [.int .u8 97, .int .u8 98, .int .u8 99] → Calls Tryd.prog 12 #[.slice (some ⟨g, 0, none⟩) 3 3] w fun e w' => e = .returned (.agg x3.toArray) ∧ Below w.heap.size w w') := Lib.hid (by rw [← hx3]; exact OA.out)
  replace HH : Hid (∀ (w : World), SumAt w g [97, 98, 99] → Tabs w → Calls Tryd.prog 10 #[.pointer (some ⟨g, 0, none⟩)] w fun e w' => e = .returned (.agg x3.toArray) ∧ Below w.heap.size w w') := Lib.hid (by rw [← hx3]; exact HH.out)
  rw [hx3] at EQ
  have HEQ := Lib.hid EQ
  clear hx0 hx3 EQ
  go_wp2_with fail
  refine ON.out.mono ?_
  rintro e w4 ⟨rfl, b4⟩
  have S4 := Lib.hid (S3.out.on b4)
  have T6 := Lib.hid (T5.out.on b4)
  have B6 := Lib.hid (bel_tr B5.out b4)
  clear ON S3 T5 B5 b4
  go_wp2_with fail
  refine (TX.out w4).mono ?_
  rintro e w5 ⟨rfl, b5⟩
  have S5 := Lib.hid (S4.out.on b5)
  have T7 := Lib.hid (T6.out.on b5)
  have B7 := Lib.hid (bel_tr B6.out b5)
  clear TX S4 T6 B6 b5
  clear HE0 HE3
  have a1 := Rd.marked w5 5 (3, 4) (bs [97, 98, 99]) (by simp [bs])
  have c1 : Below w5.heap.size w5 (w5.alloc (.cells #[.int .u8 97, .int .u8 98, .int .u8 99] 5 (3, 4))) := gr_alloc (Below.refl _ _) _
  have OB := Lib.hid (OA.out _ (T7.out.on c1) w5.heap.size (by simpa [bs] using a1))
  have S6 := Lib.hid (S5.out.on c1)
  have T8 := Lib.hid (T7.out.on c1)
  have B8 := Lib.hid (bel_tr B7.out c1)
  clear a1 c1 S5 T7 B7
  go_wp2_with fail
  refine OB.out.mono ?_
  rintro e w6 ⟨rfl, b6⟩
  have S7 := Lib.hid (S6.out.on b6)
  have T9 := Lib.hid (T8.out.on b6)
  have B9 := Lib.hid (bel_tr B8.out b6)
  clear OB S6 T8 B8 b6
  go_wp2_with fail
  refine (TY.out w6).mono ?_
  rintro e w7 ⟨rfl, b7⟩
  have C1 := Lib.hid (HH.out w7 (S7.out.on b7) (T9.out.on b7))
  have T10 := Lib.hid (T9.out.on b7)
  have B10 := Lib.hid (bel_tr B9.out b7)
  clear TY HH S7 T9 B9 b7
  go_wp2_with fail
  refine C1.out.mono ?_
  rintro e w8 ⟨rfl, b8⟩
  have T11 := Lib.hid (T10.out.on b8)
  have B11 := Lib.hid (bel_tr B10.out b8)
  clear C1 T10 B10 b8
  have a1 := Rd.marked w8 5 (3, 4) (bs [97, 98, 99]) (by simp [bs])
  have c1 : Below w8.heap.size w8 (w8.alloc (.cells #[.int .u8 97, .int .u8 98, .int .u8 99] 5 (3, 4))) := gr_alloc (Below.refl _ _) _
  have OB := Lib.hid (OA.out _ (T11.out.on c1) w8.heap.size (by simpa [bs] using a1))
  have B12 := Lib.hid (bel_tr B11.out c1)
  clear a1 c1 T11 B11 OA
  go_wp2_with fail
  refine OB.out.mono ?_
  rintro e w9 ⟨rfl, b9⟩
  have B13 := Lib.hid (bel_tr B12.out b9)
  have EQ := HEQ.out
  clear OB B12 b9 HEQ
  go_wp2_with (simp only [EQ])
  go_ret
  exact ⟨rfl, B13.out⟩
end Go.Proofs.YtkmjfaaelkmnkaaDoor
