/-
  Bytes of numbers stand in the order of the numbers.
-/
import Derived.Test.YtjleelpnkkeakaaAlive
import Derived.Lib.Strings
import Derived.Laws.StructEq
namespace Go.Proofs.Ytjleelpnkkeakaa
open Go.RowKit

theorem val_cons (y : Nat) (l : List Nat) : val (y :: l) = y * 256 ^ l.length + val l := by
  have gen : ∀ (l : List Nat) (a : Nat), l.foldl (fun a b => a * 256 + b) a = a * 256 ^ l.length + val l := by
    intro l
    induction l with
    | nil => intro a; simp [val]
    | cons z l ih =>
      intro a
      have e : val (z :: l) = z * 256 ^ l.length + val l := by
        show List.foldl _ (0 * 256 + z) l = _
        rw [ih]; simp
      rw [List.foldl_cons, ih, e, List.length_cons, Nat.pow_succ, Nat.add_mul]
      have : a * 256 * 256 ^ l.length = a * (256 ^ l.length * 256) := by rw [Nat.mul_assoc, Nat.mul_comm 256]
      omega
  show List.foldl _ (0 * 256 + y) l = _
  rw [gen]; simp

theorem less_bytes : ∀ (a b : List Nat), a.length = b.length → (∀ y ∈ a, y < 256) → (∀ y ∈ b, y < 256) →
    Op.bytesLess (a.map UInt8.ofNat) (b.map UInt8.ofNat) = decide (val a < val b)
  | [], [], _, _, _ => by simp [Op.bytesLess]
  | [], _ :: _, h, _, _ => by simp at h
  | _ :: _, [], h, _, _ => by simp at h
  | x :: a, y :: b, h, ha, hb => by
    have hl : a.length = b.length := by simpa using h
    have ih := less_bytes a b hl (fun z hz => ha z (List.mem_cons_of_mem _ hz)) (fun z hz => hb z (List.mem_cons_of_mem _ hz))
    have hx := ha x (by simp)
    have hy := hb y (by simp)
    have va := val_lt a fun z hz => ha z (List.mem_cons_of_mem _ hz)
    have vb := val_lt b fun z hz => hb z (List.mem_cons_of_mem _ hz)
    rw [List.map_cons, List.map_cons, Op.bytesLess, ih, val_cons, val_cons, hl]
    rw [hl] at va
    generalize 256 ^ b.length = E at *
    have lt8 : (UInt8.ofNat x < UInt8.ofNat y) ↔ x < y := by
      rw [UInt8.lt_iff_toNat_lt, UInt8.toNat_ofNat', UInt8.toNat_ofNat', Nat.mod_eq_of_lt (by omega), Nat.mod_eq_of_lt (by omega)]
    have eq8 : (UInt8.ofNat x == UInt8.ofNat y) = decide (x = y) := by
      rw [Bool.eq_iff_iff]
      simp only [beq_iff_eq, decide_eq_true_eq]
      constructor
      · intro e
        have := congrArg UInt8.toNat e
        rw [UInt8.toNat_ofNat', UInt8.toNat_ofNat', Nat.mod_eq_of_lt (by omega), Nat.mod_eq_of_lt (by omega)] at this
        exact this
      · intro e; rw [e]
    rw [eq8]
    rcases Nat.lt_trichotomy x y with h1 | h1 | h1
    · have h2 : (x + 1) * E ≤ y * E := Nat.mul_le_mul_right E h1
      rw [Nat.add_mul] at h2
      have h3 : x * E + val a < y * E + val b := by omega
      simp [lt8, h1, h3]
    · subst h1
      simp
    · have h2 : (y + 1) * E ≤ x * E := Nat.mul_le_mul_right E h1
      rw [Nat.add_mul] at h2
      have h3 : ¬ x * E + val a < y * E + val b := by omega
      have h4 : ¬ x < y := by omega
      have h5 : ¬ x = y := by omega
      simp [lt8, h3, h4, h5]

theorem val_append (a b : List Nat) : val (a ++ b) = val a * 256 ^ b.length + val b := by
  induction a with
  | nil => simp [val]
  | cons y a ih => rw [List.cons_append, val_cons, val_cons, ih, List.length_append, Nat.pow_add, Nat.add_mul]; rw [Nat.mul_assoc]; omega

theorem val_be8 (x : Nat) (h : x < 18446744073709551616) : val (be 8 x) = x := by rw [val_be]; exact Nat.mod_eq_of_lt (by omega)

theorem val_longs (a b p q : Nat) (ha : a < 18446744073709551616) (hb : b < 18446744073709551616) (hp : p < 18446744073709551616) (hq : q < 18446744073709551616) :
    val (longs a b p q) = q * 18446744073709551616 ^ 3 + (p * 18446744073709551616 ^ 2 + (b * 18446744073709551616 + a)) := by
  unfold longs
  rw [val_append, val_append, val_append, val_be8 a ha, val_be8 b hb, val_be8 p hp, val_be8 q hq]
  simp [be_len]

theorem str_list (l : List Nat) : (str l).toList = l.map UInt8.ofNat := by rw [Lib.toList_data]; simp [str]

theorem longs_lt (a b p q : Nat) : ∀ y ∈ longs a b p q, y < 256 := by
  intro y hy
  simp only [longs, List.mem_append] at hy
  rcases hy with h | h | h | h <;> exact be_lt _ _ y h

theorem less_word (m n : Nat) (hm : m < 18446744073709551616) (hn : n < 18446744073709551616) : Op.bytesLess (str (be 8 m)).toList (str (be 8 n)).toList = decide (m < n) := by
  rw [str_list, str_list, less_bytes _ _ (by simp [be_len]) (be_lt _ _) (be_lt _ _), val_be8 m hm, val_be8 n hn]

theorem less_long (a0 a1 a2 a3 b0 b1 b2 b3 : Nat)
    (ha0 : a0 < 18446744073709551616) (ha1 : a1 < 18446744073709551616) (ha2 : a2 < 18446744073709551616) (ha3 : a3 < 18446744073709551616)
    (hb0 : b0 < 18446744073709551616) (hb1 : b1 < 18446744073709551616) (hb2 : b2 < 18446744073709551616) (hb3 : b3 < 18446744073709551616) :
    Op.bytesLess (str (longs a0 a1 a2 a3)).toList (str (longs b0 b1 b2 b3)).toList = if a3 = b3 then (if a2 = b2 then (if a1 = b1 then (if a0 = b0 then false else decide (a0 < b0)) else decide (a1 < b1)) else decide (a2 < b2)) else decide (a3 < b3) := by
  rw [str_list, str_list, less_bytes _ _ (by simp [longs_len]) (longs_lt _ _ _ _) (longs_lt _ _ _ _), val_longs _ _ _ _ ha0 ha1 ha2 ha3, val_longs _ _ _ _ hb0 hb1 hb2 hb3]
  by_cases h3 : a3 = b3
  · rw [if_pos h3]
    by_cases h2 : a2 = b2
    · rw [if_pos h2]
      by_cases h1 : a1 = b1
      · rw [if_pos h1]
        by_cases h0 : a0 = b0
        · rw [if_pos h0]; subst h3 h2 h1 h0; simp
        · rw [if_neg h0, decide_eq_decide]; omega
      · rw [if_neg h1, decide_eq_decide]; omega
    · rw [if_neg h2, decide_eq_decide]; omega
  · rw [if_neg h3, decide_eq_decide]; omega

theorem same_long (a0 a1 a2 a3 b0 b1 b2 b3 : Nat)
    (ha0 : a0 < 18446744073709551616) (ha1 : a1 < 18446744073709551616) (ha2 : a2 < 18446744073709551616) (ha3 : a3 < 18446744073709551616)
    (hb0 : b0 < 18446744073709551616) (hb1 : b1 < 18446744073709551616) (hb2 : b2 < 18446744073709551616) (hb3 : b3 < 18446744073709551616) :
    ((str (longs a0 a1 a2 a3)).toList = (str (longs b0 b1 b2 b3)).toList) ↔ (a0 = b0 ∧ a1 = b1 ∧ a2 = b2 ∧ a3 = b3) := by
  constructor
  · intro h
    have hl := less_long a0 a1 a2 a3 b0 b1 b2 b3 ha0 ha1 ha2 ha3 hb0 hb1 hb2 hb3
    have hr := less_long b0 b1 b2 b3 a0 a1 a2 a3 hb0 hb1 hb2 hb3 ha0 ha1 ha2 ha3
    have irr : ∀ l : List UInt8, Op.bytesLess l l = false := by
      intro l
      induction l with
      | nil => rfl
      | cons x l ih => simp [Op.bytesLess, ih]
    rw [h, irr] at hl
    rw [← h, irr] at hr
    by_cases h3 : a3 = b3
    · rw [if_pos h3] at hl
      rw [if_pos h3.symm] at hr
      by_cases h2 : a2 = b2
      · rw [if_pos h2] at hl
        rw [if_pos h2.symm] at hr
        by_cases h1 : a1 = b1
        · rw [if_pos h1] at hl
          rw [if_pos h1.symm] at hr
          by_cases h0 : a0 = b0
          · exact ⟨h0, h1, h2, h3⟩
          · rw [if_neg h0] at hl
            rw [if_neg (fun e => h0 e.symm)] at hr
            simp at hl hr; omega
        · rw [if_neg h1] at hl
          rw [if_neg (fun e => h1 e.symm)] at hr
          simp at hl hr; omega
      · rw [if_neg h2] at hl
        rw [if_neg (fun e => h2 e.symm)] at hr
        simp at hl hr; omega
    · rw [if_neg h3] at hl
      rw [if_neg (fun e => h3 e.symm)] at hr
      simp at hl hr; omega
  · rintro ⟨rfl, rfl, rfl, rfl⟩; rfl

/-- two long numbers, held against each other -/
theorem eq24 (a b c d a' b' c' d' : Int) (w : World) : (Op.equalIn 10000 24 (.agg #[.int .u64 a, .int .u64 b, .int .u64 c, .int .u64 d]) (.agg #[.int .u64 a', .int .u64 b', .int .u64 c', .int .u64 d'])).run Try.prog w = .ok (decide (a = a' ∧ b = b' ∧ c = c' ∧ d = d')) w := by
  have u3 := Try.underlying22
  have a3 := Try.isAgg22
  have z3 := Try.sizeOf22
  rw [show (10000 : Nat) = 9999 + 1 from rfl, Op.equalIn]
  simp only [Sem.run_bind, run_underlying Try.underlying24, Result.andThen_ok]
  simp only [Std.Legacy.Range.forIn_eq_forIn_range', Std.Legacy.Range.size, Nat.sub_zero, Nat.add_sub_cancel, Nat.div_one, List.range'_succ, List.range'_zero, List.forIn_cons, List.forIn_nil]
  go_simp
  by_cases h1 : a = a' <;> by_cases h2 : b = b' <;> by_cases h3 : c = c' <;> by_cases h4 : d = d' <;> simp [h1, h2, h3, h4]
end Go.Proofs.Ytjleelpnkkeakaa
