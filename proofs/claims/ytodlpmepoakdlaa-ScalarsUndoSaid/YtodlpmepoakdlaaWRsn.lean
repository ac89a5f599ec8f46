/-
  Reasons: when one holds, and that its number is prime then. Nothing here speaks of the program.
-/
import Derived.Test.YtodlpmepoakdlaaWPri
namespace Go.Proofs.Ytodlpmepoakdlaa.Pr
set_option maxRecDepth 100000
set_option linter.unusedSimpArgs false
set_option linter.unusedVariables false

/-! ### the greatest power that divides a number -/
/-- How often a number goes into another one, at most so often. -/
def vp (q : Nat) : Nat → Nat → Nat
  | 0, _ => 0
  | k + 1, m => if m % q = 0 then vp q k (m / q) + 1 else 0

def ex (q m : Nat) : Nat := vp q m m
def gp (q m : Nat) : Nat := q ^ ex q m

theorem vp_dvd (q : Nat) : ∀ k m, q ^ vp q k m ∣ m
  | 0, m => by simp [vp]
  | k + 1, m => by
      unfold vp
      split
      · rename_i h
        rw [Nat.pow_succ]
        have := vp_dvd q k (m / q)
        obtain ⟨c, hc⟩ := this
        refine ⟨c, ?_⟩
        have hm : q * (m / q) = m := Nat.mul_div_cancel' (Nat.dvd_of_mod_eq_zero h)
        calc m = q * (m / q) := hm.symm
          _ = q * (q ^ vp q k (m / q) * c) := by rw [← hc]
          _ = q ^ vp q k (m / q) * q * c := by rw [← Nat.mul_assoc, Nat.mul_comm q]
      · simp

theorem gp_dvd (q m : Nat) : gp q m ∣ m := vp_dvd q m m
/-! ### reasons -/
inductive Rsn where
  | mk (n w : Nat) (ps : List Rsn)

def Rsn.n : Rsn → Nat | .mk n _ _ => n
def Rsn.w : Rsn → Nat | .mk _ w _ => w
def Rsn.ps : Rsn → List Rsn | .mk _ _ ps => ps

mutual
/-- Reasons in a reason, all together, with itself. -/
def Rsn.cnt : Rsn → Nat
  | .mk _ _ ps => cnts ps + 1
def cnts : List Rsn → Nat
  | [] => 0
  | r :: rs => r.cnt + cnts rs
end

open Classical in
noncomputable def priB (n : Nat) : Bool := decide (Pri n)
theorem priB_iff {n : Nat} : priB n = true ↔ Pri n := by simp [priB]
/-- The numbers rise. -/
def rises : List Nat → Bool
  | [] => true
  | [_] => true
  | a :: b :: l => decide (a < b) && rises (b :: l)

/-- The product of the greatest powers. -/
def fprod (m : Nat) (qs : List Nat) : Nat := pr (qs.map fun q => gp q m)

/-- What is asked of a great number, its witness and its parts' numbers, but for the parts themselves. -/
def great (n w : Nat) (qs : List Nat) : Bool :=
  rises qs && (qs.all fun q => (n - 1) % q == 0) && decide (n < fprod (n - 1) qs * fprod (n - 1) qs) && decide (1 < w) && decide (w < n) && decide (w ^ (n - 1) % n = 1)
    && qs.all fun q => decide (Nat.gcd ((w ^ ((n - 1) / q) % n + n - 1) % n) n = 1)

mutual
/-- When a reason holds, but for how many are in it. -/
noncomputable def Rsn.ok : Rsn → Bool
  | .mk n w ps => if n < 4294967296 then priB n && (decide (w = 0) && ps.isEmpty) else oks ps && great n w (ps.map Rsn.n)
noncomputable def oks : List Rsn → Bool
  | [] => true
  | r :: rs => r.ok && oks rs
end

/-- When a reason holds. -/
noncomputable def Rsn.holds (r : Rsn) : Bool := decide (r.cnt ≤ 32) && r.ok

theorem rises_lt : ∀ {l : List Nat} {a : Nat}, rises (a :: l) = true → ∀ b ∈ l, a < b
  | x :: l, a, h, b, hb => by
      simp only [rises, Bool.and_eq_true, decide_eq_true_eq] at h
      rcases List.mem_cons.mp hb with h1 | h1
      · subst h1; exact h.1
      · exact Nat.lt_trans h.1 (rises_lt h.2 b h1)
theorem rises_tail {a : Nat} {l : List Nat} (h : rises (a :: l) = true) : rises l = true := by
  cases l with
  | nil => rfl
  | cons b l => simp only [rises, Bool.and_eq_true] at h; exact h.2
theorem rises_nodup : ∀ {l : List Nat}, rises l = true → l.Nodup
  | [], _ => List.nodup_nil
  | a :: l, h => List.nodup_cons.mpr ⟨fun hm => Nat.lt_irrefl a (rises_lt h a hm), rises_nodup (rises_tail h)⟩

theorem fprod_eq (m : Nat) (qs : List Nat) : fprod m qs = pr ((qs.map fun q => (q, ex q m)).map fun x => x.1 ^ x.2) := by
  unfold fprod
  rw [List.map_map]
  rfl

theorem gcd_no {n y p : Nat} (hn : 1 < n) (hp : p ∣ n) (hy : y % p = 1) (hg : Nat.gcd ((y % n + n - 1) % n) n = 1) : p = 1 := by
  have hp0 : p ≠ 0 := fun h => by subst h; rw [Nat.zero_dvd] at hp; omega
  rcases Nat.eq_or_lt_of_le (show 1 ≤ p by omega) with h1 | h1
  · exact h1.symm
  · have h2 : p ∣ (y % n + n - 1) % n := by
      refine (Nat.dvd_mod_iff hp).mpr ?_
      have h3 : y % n % p = 1 := by rw [Nat.mod_mod_of_dvd _ hp]; exact hy
      have h4 : y % n = p * (y % n / p) + 1 := by
        have := Nat.div_add_mod (y % n) p
        rw [h3] at this
        exact this.symm
      have h5 : y % n + n - 1 = p * (y % n / p) + n := by omega
      rw [h5]
      exact Nat.dvd_add (Nat.dvd_mul_right _ _) hp
    have := Nat.dvd_gcd h2 hp
    rw [hg] at this
    exact Nat.dvd_one.mp this

theorem great_pri {n w : Nat} {qs : List Nat} (hn : 1 < n) (hp : ∀ q ∈ qs, Pri q) (h : great n w qs = true) : Pri n := by
  simp only [great, Bool.and_eq_true, decide_eq_true_eq, List.all_eq_true, beq_iff_eq] at h
  obtain ⟨⟨⟨⟨⟨⟨hr, hd⟩, hF⟩, hw1⟩, hwn⟩, hw⟩, hg⟩ := h
  rw [fprod_eq] at hF
  refine pock n w _ hn ?_ hF hw ?_
  · rw [List.map_map]
    have : (Prod.fst ∘ fun q => (q, ex q (n - 1))) = id := rfl
    rw [this, List.map_id]
    exact rises_nodup hr
  · intro x hx
    obtain ⟨q, hq, rfl⟩ := List.mem_map.mp hx
    exact ⟨hp q hq, gp_dvd q _, Nat.dvd_of_mod_eq_zero (hd q hq), fun p hpn hpw => gcd_no hn hpn hpw (hg q hq)⟩

mutual
theorem ok_pri : ∀ r : Rsn, r.ok = true → Pri r.n
  | .mk n w ps, h => by
      unfold Rsn.ok at h
      split at h
      · simp only [Bool.and_eq_true] at h
        exact priB_iff.mp h.1
      · simp only [Bool.and_eq_true] at h
        refine great_pri (show 1 < n by omega) ?_ h.2
        intro q hq
        obtain ⟨r, hr, rfl⟩ := List.mem_map.mp hq
        exact oks_pri ps h.1 r hr
theorem oks_pri : ∀ l : List Rsn, oks l = true → ∀ r ∈ l, Pri r.n
  | [], _, r, hr => by simp at hr
  | x :: l, h, r, hr => by
      simp only [oks, Bool.and_eq_true] at h
      rcases List.mem_cons.mp hr with h1 | h1
      · have := ok_pri x h.1
        rw [h1]
        exact this
      · exact oks_pri l h.2 r h1
end

/-! ### what follows -/
end Go.Proofs.Ytodlpmepoakdlaa.Pr
