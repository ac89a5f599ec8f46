/-
  The statements' helper 'alive': some answers that the document fixes; it is true.
-/
import Derived.Test.YtjleelpnkkeakaaMore
import Derived.Laws.BytesArg
namespace Go.Proofs.Ytjleelpnkkeakaa
open Go.RowKit

def str (l : List Nat) : ByteArray := ⟨(l.map UInt8.ofNat).toArray⟩

theorem str_nums (l : List Nat) : strOfNums (l.map fun x : Nat => (x : Int)) = str l := by
  simp [strOfNums, str, Function.comp_def]

/-- string(b) of bytes that read as a list -/
theorem Rd.str_ {w : World} {A : Option Addr} {n : Nat} {l : List Nat} (h : Rd w A n (bs l)) (c : Nat) : (convert 27 9 (.slice A n c)).run Try.prog w = .ok (.string (str l)) w := by
  have hl : l.length = n := by have := h.1; rwa [bs_len] at this
  rcases Nat.eq_zero_or_pos n with rfl | hp
  · obtain rfl : l = [] := List.eq_nil_of_length_eq_zero hl
    rw [run_convert_bytes_string w 27 9 5 A 0 c Try.underlying27 Try.underlying5 Try.underlying9]
    cases A <;> simp [Conv.bytesToString, loadCells] <;> rfl
  · obtain ⟨b, off, rfl, _, hc⟩ := h.2 hp
    rw [run_convert_bytes_arg w 27 5 Try.underlying27 Try.underlying5 b off n c (l.map fun x : Nat => (x : Int)) (by simpa using hl) (fun i hi => by
      rw [hc i _ (bs_at l i (by omega))]; simp [show i < l.length by omega]) 9 Try.underlying9, str_nums]

theorem cell_on {W w : World} {a : Addr} {v : Value} (hb : Below W.heap.size W w) (h : W.cell? a = some v) : w.cell? a = some v := (hb.cell (World.block_lt_of_cell? W a h)).trans h
theorem cell_al {W : World} {a : Addr} {v : Value} (o : Obj) (h : W.cell? a = some v) : (W.alloc o).cell? a = some v := (World.cell?_alloc_lt W o a (World.block_lt_of_cell? W a h)).trans h
theorem bel_al {W w : World} (o : Obj) (hb : Below W.heap.size W w) : Below W.heap.size W (w.alloc o) := hb.alloc hb.size o
theorem bel_tr {a b c : World} (h : Below a.heap.size a b) (k : Below b.heap.size b c) : Below a.heap.size a c := h.trans (k.mono h.size)

theorem al_get1 (W : World) (H : Nat) (hH : W.heap.size = H) : Calls Try.prog 11 #[.slice (some ⟨H, 0, none⟩) 3 3, .int .i64 2] (W.alloc (.cells #[.int .u8 1, .int .u8 2, .int .u8 7] 5)) fun e w' => e = .returned (.tuple #[.int .u64 258, .int .i64 0]) ∧ Below W.heap.size W w' := by
  subst hH
  exact (get_ok _ 3 3 2 [1, 2, 7] _ (by omega) (by omega) (by omega) (by omega) (Rd.built W 5 (bs [1, 2, 7]) (by decide)) (by decide)).mono fun e w' ⟨he, hw⟩ => ⟨he, hw ▸ (Below.refl _ _).alloc (Nat.le_refl _) _⟩

theorem al_put (W : World) : Calls Try.prog 9 #[.slice none 0 0, .agg #[.int .u64 5, .int .u64 0, .int .u64 0, .int .u64 0]] W fun e w' => ∃ g, e = .returned (.slice (some ⟨g, 0, none⟩) 32 32) ∧ w'.cell? ⟨g, 31, none⟩ = some (.int .u8 5) ∧ Below W.heap.size W w' :=
  (putLong_any none 0 0 5 0 0 0 [] W (by omega) (by omega) (by simp) (Rd.nil W none) (by omega) (by omega) (by omega) (by omega)).mono fun e w' ⟨he, ho, hb⟩ => by
    refine ⟨_, he, ?_, hb⟩
    obtain ⟨b, off, e1, _, hc⟩ := (Rd.own ho).2 (by omega)
    injection e1 with e1
    injection e1 with e1 e2
    subst e1 e2
    exact hc 31 _ rfl

theorem al_bytes (W : World) (H : Nat) (hH : W.heap.size = H) : Calls Try.prog 14 #[.slice (some ⟨H, 0, none⟩) 7 7] (W.alloc (.cells #[.int .u8 0, .int .u8 0, .int .u8 0, .int .u8 2, .int .u8 7, .int .u8 8, .int .u8 9] 5)) fun e w' => ∃ A c, e = .returned (.tuple #[.slice A 2 c, .int .i64 6, .int .i64 0]) ∧ Rd w' A 2 (bs [7, 8]) ∧ Below W.heap.size W w' := by
  subst hH
  exact (getBytes_ok _ 7 7 2 [0, 0, 0, 2, 7, 8, 9] _ (by omega) (by omega) (by omega) (by omega) (Rd.built W 5 (bs [0, 0, 0, 2, 7, 8, 9]) (by decide)) (by decide) (by decide) (by omega)).mono fun e w' ⟨v, he, ho, hb⟩ => by
    obtain ⟨A, c, rfl, _, _⟩ := own_form ho
    exact ⟨A, c, he, Rd.own ho, bel_tr ((Below.refl _ _).alloc (Nat.le_refl _) _) hb⟩

theorem al_bytes2 (W : World) (H : Nat) (hH : W.heap.size = H) : Calls Try.prog 14 #[.slice (some ⟨H, 0, none⟩) 5 5] (W.alloc (.cells #[.int .u8 0, .int .u8 0, .int .u8 0, .int .u8 2, .int .u8 7] 5)) fun e w' => e = .returned (.tuple #[.slice none 0 0, .int .i64 0, .int .i64 5]) ∧ Below W.heap.size W w' := by
  subst hH
  exact (getBytes_short _ 5 5 2 [0, 0, 0, 2, 7] _ (by omega) (by omega) (by omega) (by omega) (Rd.built W 5 (bs [0, 0, 0, 2, 7]) (by decide)) (by decide) (by decide) (by omega)).mono fun e w' ⟨he, hw⟩ => ⟨he, hw ▸ (Below.refl _ _).alloc (Nat.le_refl _) _⟩

def IsStr (w : World) (v : Value) (s : ByteArray) : Prop := (convert 27 9 v).run Try.prog w = .ok (.string s) w

theorem al_put2 (W : World) (H : Nat) (hH : W.heap.size = H) : Calls Try.prog 8 #[.slice (some ⟨H, 0, none⟩) 1 1, .int .u64 258, .int .i64 2] (W.alloc (.cells #[.int .u8 9] 5)) fun e w' => ∃ v, e = .returned v ∧ IsStr w' v ⟨#[9, 1, 2]⟩ ∧ Below W.heap.size W w' := by
  subst hH
  exact (put_any _ 1 1 2 258 2 [9] _ (by omega) (by omega) (by omega) (by simp) (Rd.built W 5 (bs [9]) (by decide)) (by omega)).mono fun e w' ⟨he, ho, hb⟩ =>
    ⟨_, he, (Rd.own ho).str_ _, bel_tr ((Below.refl _ _).alloc (Nat.le_refl _) _) hb⟩

theorem al_put1 (W : World) : Calls Try.prog 8 #[.slice none 0 0, .int .u64 258, .int .i64 1] W fun e w' => ∃ v, e = .returned v ∧ IsStr w' v ⟨#[2]⟩ ∧ Below W.heap.size W w' :=
  (put_any none 0 0 1 258 1 [] _ (by omega) (by omega) (by omega) (by simp) (Rd.nil W none) (by omega)).mono fun e w' ⟨he, ho, hb⟩ =>
    ⟨_, he, (Rd.own ho).str_ _, hb⟩

theorem al_putB (W : World) (H : Nat) (hH : W.heap.size = H) : Calls Try.prog 13 #[.slice (some ⟨H, 0, none⟩) 1 1, .slice (some ⟨H + 1, 0, none⟩) 2 2] ((W.alloc (.cells #[.int .u8 1] 5)).alloc (.cells #[.int .u8 7, .int .u8 7] 5)) fun e w' => ∃ v, e = .returned v ∧ IsStr w' v ⟨#[1, 0, 0, 0, 2, 7, 7]⟩ ∧ Below W.heap.size W w' := by
  subst hH
  have h1 : Rd ((W.alloc (.cells #[.int .u8 1] 5)).alloc (.cells #[.int .u8 7, .int .u8 7] 5)) (some ⟨W.heap.size, 0, none⟩) 1 (bs [1]) := (Rd.built W 5 (bs [1]) (by decide)).alloc _
  have h2 : Rd ((W.alloc (.cells #[.int .u8 1] 5)).alloc (.cells #[.int .u8 7, .int .u8 7] 5)) (some ⟨W.heap.size + 1, 0, none⟩) 2 (bs [7, 7]) := by
    have := Rd.built (W.alloc (.cells #[.int .u8 1] 5)) 5 (bs [7, 7]) (by decide)
    have e : (W.alloc (.cells #[.int .u8 1] 5)).heap.size = W.heap.size + 1 := by simp
    rw [e] at this
    exact this
  refine (putBytes_any _ _ 1 1 2 2 [1] [7, 7] _ (by omega) (by omega) (by simp) h1 (by omega) (by simp) h2).mono fun e w' ⟨v, he, ho, hb⟩ => ?_
  obtain ⟨A, c, rfl, _, _⟩ := own_form ho
  exact ⟨_, he, (Rd.own ho).str_ _, bel_tr (bel_al _ ((Below.refl _ _).alloc (Nat.le_refl _) _)) hb⟩

set_option maxRecDepth 100000 in
set_option maxHeartbeats 1000000 in
theorem alive_true (w : World) : Calls Try.prog 6 #[] w fun e w' => e = .returned (.bool true) ∧ Below w.heap.size w w' := by
  go_enter Try.func6, Try.ntmps6
  go_wp2_with fail
  refine (al_get1 _ _ rfl).mono ?_
  rintro e w1 ⟨rfl, b1⟩
  go_wp2_with fail
  refine (get_short _ 1 1 2 _ (by omega) (by omega)).mono ?_
  rintro e w2 ⟨rfl, rfl⟩
  go_wp2_with fail
  refine (get_high _ 1 1 9 _ (by omega)).mono ?_
  rintro e w2 ⟨rfl, rfl⟩
  go_wp2_with fail
  refine (al_put _).mono ?_
  rintro e w3 ⟨g, rfl, c3, b3⟩
  have b3' : Below w.heap.size w w3 := bel_tr (bel_al _ (bel_al _ b1)) b3
  clear b3 b1
  go_wp2_with fail
  refine (getLong_short _ 31 31 _ (by omega)).mono ?_
  rintro e w4 ⟨rfl, b4⟩
  have c4 := cell_on b4 c3
  have b4' := bel_tr b3' b4
  clear b3' b4 c3
  go_wp2_with fail
  refine (al_bytes _ _ (by simp)).mono ?_
  rintro e w5 ⟨A, c, rfl, r5, b5⟩
  have c5 := cell_on b5 (cell_al _ c4)
  have b5' := bel_tr (bel_al _ b4') b5
  clear b4' b5 c4
  go_wp2_with fail
  refine (al_bytes2 _ _ rfl).mono ?_
  rintro e w6 ⟨rfl, b6⟩
  have c6 := cell_on b6 c5
  have r6 := r5.below b6
  have b6' := bel_tr b5' b6
  clear b5' b6 c5 r5
  go_wp2_with fail
  refine (al_put2 _ _ rfl).mono ?_
  rintro e w7 ⟨v7, rfl, s7, b7⟩
  have c7 := cell_on b7 c6
  have r7 := r6.below b7
  have b7' := bel_tr b6' b7
  clear b6' b7 c6 r6
  unfold IsStr at s7
  go_wp2_with fail
  refine (al_put1 _).mono ?_
  rintro e w8 ⟨v8, rfl, s8, b8⟩
  have c8 := cell_on b8 c7
  have r8 := r7.below b8
  have b8' := bel_tr b7' b8
  clear b7' b8 c7 r7 s7
  unfold IsStr at s8
  go_wp2_with fail
  refine (al_putB _ _ rfl).mono ?_
  rintro e w9 ⟨v9, rfl, s9, b9⟩
  have s10 : (convert 27 9 (.slice A 2 c)).run Try.prog w9 = .ok (.string ⟨#[7, 8]⟩) w9 := (r8.below b9).str_ c
  have b9' := bel_tr b8' b9
  clear b8' b9 c8 r8 s8
  unfold IsStr at s9
  go_wp2_with fail
  go_ret
  exact ⟨rfl, b9'⟩
end Go.Proofs.Ytjleelpnkkeakaa
