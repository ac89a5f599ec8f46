/-
  Reasons: when one holds, and that its number is prime then. Nothing here speaks of the program.
-/
import Derived.Test.YtfjploahkodekaaMPri
namespace Go.Proofs.Ytfjploahkodekaa.Pr
set_option maxRecDepth 100000
set_option linter.unusedSimpArgs false
set_option linter.unusedVariables false

/-! ### the greatest power that divides a number -/
/-- How often a number goes into another one, at most so often. -/
def vp (q : Nat) : Nat → Nat → Nat
  | 0, _ => 0
  | k + 1, m => if m % q = 0 then vp q k (m / q) + 1 else 0

def ex (q m : Nat) : Nat := vp q m m
def gp (q m : Nat) : Nat := q ^ ex q m

theorem vp_dvd (q : Nat) : ∀ k m, q ^ vp q k m ∣ m
  | 0, m => by simp [vp]
  | k + 1, m => by
      unfold vp
      split
      · rename_i h
        rw [Nat.pow_succ]
        have := vp_dvd q k (m / q)
        obtain ⟨c, hc⟩ := this
        refine ⟨c, ?_⟩
        have hm : q * (m / q) = m := Nat.mul_div_cancel' (Nat.dvd_of_mod_eq_zero h)
        calc m = q * (m / q) := hm.symm
          _ = q * (q ^ vp q k (m / q) * c) := by rw [← hc]
          _ = q ^ vp q k (m / q) * q * c := by rw [← Nat.mul_assoc, Nat.mul_comm q]
      · simp

theorem vp_max (q : Nat) (h2 : 2 ≤ q) : ∀ k m, 0 < m → m ≤ k → ¬ q ^ (vp q k m + 1) ∣ m
  | 0, m, h0, hk => by omega
  | k + 1, m, h0, hk => by
      unfold vp
      split
      · rename_i h
        have hm : q * (m / q) = m := Nat.mul_div_cancel' (Nat.dvd_of_mod_eq_zero h)
        have hd0 : 0 < m / q := Nat.pos_of_ne_zero fun h => by rw [h, Nat.mul_zero] at hm; omega
        have hlt : m / q < m := Nat.div_lt_self h0 (by omega)
        have ih := vp_max q h2 k (m / q) hd0 (by omega)
        intro hd
        rw [Nat.pow_succ] at hd
        refine ih ?_
        obtain ⟨c, hc⟩ := hd
        refine ⟨c, Nat.eq_of_mul_eq_mul_left (show 0 < q by omega) ?_⟩
        rw [hm, ← Nat.mul_assoc, Nat.mul_comm q]
        exact hc
      · rename_i h
        intro hd
        rw [Nat.zero_add, Nat.pow_one] at hd
        exact h (Nat.mod_eq_zero_of_dvd hd)

theorem gp_dvd (q m : Nat) : gp q m ∣ m := vp_dvd q m m
theorem gp_max {q m : Nat} (h2 : 2 ≤ q) (h0 : 0 < m) : ¬ gp q m * q ∣ m := by
  unfold gp ex
  rw [← Nat.pow_succ]
  exact vp_max q h2 m m h0 (Nat.le_refl m)

/-- Whoever is a power that divides, while the next one does not, is the greatest one. -/
theorem gp_of {q m e : Nat} (h2 : 2 ≤ q) (h0 : 0 < m) (h : q ^ e ∣ m) (hn : ¬ q ^ e * q ∣ m) : gp q m = q ^ e := by
  have h1 : e ≤ ex q m := by
    rcases Nat.lt_or_ge (ex q m) e with hl | hl
    · exfalso
      refine vp_max q h2 m m h0 (Nat.le_refl m) (Nat.dvd_trans (Nat.pow_dvd_pow q ?_) h)
      exact hl
    · exact hl
  have h3 : ex q m ≤ e := by
    rcases Nat.lt_or_ge e (ex q m) with hl | hl
    · exfalso
      rw [← Nat.pow_succ] at hn
      exact hn (Nat.dvd_trans (Nat.pow_dvd_pow q hl) (vp_dvd q m m))
    · exact hl
  unfold gp
  rw [Nat.le_antisymm h3 h1]

/-! ### reasons -/
inductive Rsn where
  | mk (n w : Nat) (ps : List Rsn)

def Rsn.n : Rsn → Nat | .mk n _ _ => n
def Rsn.w : Rsn → Nat | .mk _ w _ => w
def Rsn.ps : Rsn → List Rsn | .mk _ _ ps => ps

mutual
/-- Reasons in a reason, all together, with itself. -/
def Rsn.cnt : Rsn → Nat
  | .mk _ _ ps => cnts ps + 1
def cnts : List Rsn → Nat
  | [] => 0
  | r :: rs => r.cnt + cnts rs
end

open Classical in
noncomputable def priB (n : Nat) : Bool := decide (Pri n)
theorem priB_iff {n : Nat} : priB n = true ↔ Pri n := by simp [priB]
theorem priB_not {n : Nat} : priB n = false ↔ ¬ Pri n := by simp [priB]

/-- The numbers rise. -/
def rises : List Nat → Bool
  | [] => true
  | [_] => true
  | a :: b :: l => decide (a < b) && rises (b :: l)

/-- The product of the greatest powers. -/
def fprod (m : Nat) (qs : List Nat) : Nat := pr (qs.map fun q => gp q m)

/-- What is asked of a great number, its witness and its parts' numbers, but for the parts themselves. -/
def great (n w : Nat) (qs : List Nat) : Bool :=
  rises qs && (qs.all fun q => (n - 1) % q == 0) && decide (n < fprod (n - 1) qs * fprod (n - 1) qs) && decide (1 < w) && decide (w < n) && decide (w ^ (n - 1) % n = 1)
    && qs.all fun q => decide (Nat.gcd ((w ^ ((n - 1) / q) % n + n - 1) % n) n = 1)

mutual
/-- When a reason holds, but for how many are in it. -/
noncomputable def Rsn.ok : Rsn → Bool
  | .mk n w ps => if n < 4294967296 then priB n && (decide (w = 0) && ps.isEmpty) else oks ps && great n w (ps.map Rsn.n)
noncomputable def oks : List Rsn → Bool
  | [] => true
  | r :: rs => r.ok && oks rs
end

/-- When a reason holds. -/
noncomputable def Rsn.holds (r : Rsn) : Bool := decide (r.cnt ≤ 32) && r.ok

theorem oks_iff : ∀ {l : List Rsn}, oks l = true ↔ ∀ r ∈ l, r.ok = true
  | [] => by simp [oks]
  | r :: rs => by simp [oks, oks_iff (l := rs)]

theorem cnts_mem : ∀ {l : List Rsn} {r : Rsn}, r ∈ l → r.cnt ≤ cnts l
  | x :: l, r, h => by
      rcases List.mem_cons.mp h with h | h
      · subst h; simp only [cnts]; omega
      · have := cnts_mem h; simp only [cnts]; omega

theorem cnt_pos (r : Rsn) : 0 < r.cnt := by
  cases r
  simp only [Rsn.cnt]
  omega

theorem length_le_cnts : ∀ l : List Rsn, l.length ≤ cnts l
  | [] => Nat.le_refl 0
  | r :: rs => by
      have := length_le_cnts rs
      have := cnt_pos r
      simp only [List.length_cons, cnts]
      omega

theorem rises_lt : ∀ {l : List Nat} {a : Nat}, rises (a :: l) = true → ∀ b ∈ l, a < b
  | x :: l, a, h, b, hb => by
      simp only [rises, Bool.and_eq_true, decide_eq_true_eq] at h
      rcases List.mem_cons.mp hb with h1 | h1
      · subst h1; exact h.1
      · exact Nat.lt_trans h.1 (rises_lt h.2 b h1)
theorem rises_tail {a : Nat} {l : List Nat} (h : rises (a :: l) = true) : rises l = true := by
  cases l with
  | nil => rfl
  | cons b l => simp only [rises, Bool.and_eq_true] at h; exact h.2
theorem rises_nodup : ∀ {l : List Nat}, rises l = true → l.Nodup
  | [], _ => List.nodup_nil
  | a :: l, h => List.nodup_cons.mpr ⟨fun hm => Nat.lt_irrefl a (rises_lt h a hm), rises_nodup (rises_tail h)⟩

/-- Neighbours rise: all do. -/
theorem rises_of : ∀ {l : List Nat}, (∀ i, i + 1 < l.length → l.getD i 0 < l.getD (i + 1) 0) → rises l = true
  | [], _ => rfl
  | [_], _ => rfl
  | a :: b :: l, h => by
      simp only [rises, Bool.and_eq_true, decide_eq_true_eq]
      refine ⟨by simpa using h 0 (by simp), rises_of fun i hi => ?_⟩
      have := h (i + 1) (by simpa using hi)
      simpa using this
theorem rises_at : ∀ {l : List Nat}, rises l = true → ∀ i, i + 1 < l.length → l.getD i 0 < l.getD (i + 1) 0
  | [], _, i, hi => by simp at hi
  | [_], _, i, hi => by simp at hi
  | a :: b :: l, h, i, hi => by
      simp only [rises, Bool.and_eq_true, decide_eq_true_eq] at h
      cases i with
      | zero => simpa using h.1
      | succ i => simpa using rises_at h.2 i (by simpa using hi)

theorem fprod_eq (m : Nat) (qs : List Nat) : fprod m qs = pr ((qs.map fun q => (q, ex q m)).map fun x => x.1 ^ x.2) := by
  unfold fprod
  rw [List.map_map]
  rfl

/-- Whose parts are prime, and are not alike: what they make together divides. -/
theorem fprod_dvd {m : Nat} {qs : List Nat} (hn : qs.Nodup) (hp : ∀ q ∈ qs, Pri q) : fprod m qs ∣ m := by
  rw [fprod_eq]
  refine prod_dvd m _ ?_ ?_
  · rw [List.map_map]
    have : (Prod.fst ∘ fun q => (q, ex q m)) = id := rfl
    rw [this, List.map_id]
    exact hn
  · intro x hx
    obtain ⟨q, hq, rfl⟩ := List.mem_map.mp hx
    exact ⟨hp q hq, gp_dvd q m⟩

theorem gcd_no {n y p : Nat} (hn : 1 < n) (hp : p ∣ n) (hy : y % p = 1) (hg : Nat.gcd ((y % n + n - 1) % n) n = 1) : p = 1 := by
  have hp0 : p ≠ 0 := fun h => by subst h; rw [Nat.zero_dvd] at hp; omega
  rcases Nat.eq_or_lt_of_le (show 1 ≤ p by omega) with h1 | h1
  · exact h1.symm
  · have h2 : p ∣ (y % n + n - 1) % n := by
      refine (Nat.dvd_mod_iff hp).mpr ?_
      have h3 : y % n % p = 1 := by rw [Nat.mod_mod_of_dvd _ hp]; exact hy
      have h4 : y % n = p * (y % n / p) + 1 := by
        have := Nat.div_add_mod (y % n) p
        rw [h3] at this
        exact this.symm
      have h5 : y % n + n - 1 = p * (y % n / p) + n := by omega
      rw [h5]
      exact Nat.dvd_add (Nat.dvd_mul_right _ _) hp
    have := Nat.dvd_gcd h2 hp
    rw [hg] at this
    exact Nat.dvd_one.mp this

theorem great_pri {n w : Nat} {qs : List Nat} (hn : 1 < n) (hp : ∀ q ∈ qs, Pri q) (h : great n w qs = true) : Pri n := by
  simp only [great, Bool.and_eq_true, decide_eq_true_eq, List.all_eq_true, beq_iff_eq] at h
  obtain ⟨⟨⟨⟨⟨⟨hr, hd⟩, hF⟩, hw1⟩, hwn⟩, hw⟩, hg⟩ := h
  rw [fprod_eq] at hF
  refine pock n w _ hn ?_ hF hw ?_
  · rw [List.map_map]
    have : (Prod.fst ∘ fun q => (q, ex q (n - 1))) = id := rfl
    rw [this, List.map_id]
    exact rises_nodup hr
  · intro x hx
    obtain ⟨q, hq, rfl⟩ := List.mem_map.mp hx
    exact ⟨hp q hq, gp_dvd q _, Nat.dvd_of_mod_eq_zero (hd q hq), fun p hpn hpw => gcd_no hn hpn hpw (hg q hq)⟩

mutual
theorem ok_pri : ∀ r : Rsn, r.ok = true → Pri r.n
  | .mk n w ps, h => by
      unfold Rsn.ok at h
      split at h
      · simp only [Bool.and_eq_true] at h
        exact priB_iff.mp h.1
      · simp only [Bool.and_eq_true] at h
        refine great_pri (show 1 < n by omega) ?_ h.2
        intro q hq
        obtain ⟨r, hr, rfl⟩ := List.mem_map.mp hq
        exact oks_pri ps h.1 r hr
theorem oks_pri : ∀ l : List Rsn, oks l = true → ∀ r ∈ l, Pri r.n
  | [], _, r, hr => by simp at hr
  | x :: l, h, r, hr => by
      simp only [oks, Bool.and_eq_true] at h
      rcases List.mem_cons.mp hr with h1 | h1
      · have := ok_pri x h.1
        rw [h1]
        exact this
      · exact oks_pri l h.2 r h1
end

theorem holds_pri {r : Rsn} (h : r.holds = true) : Pri r.n := by
  simp only [Rsn.holds, Bool.and_eq_true] at h
  exact ok_pri r h.2

/-! ### what follows -/
theorem holds_ok {r : Rsn} (h : r.holds = true) : r.ok = true ∧ r.cnt ≤ 32 := by
  simp only [Rsn.holds, Bool.and_eq_true, decide_eq_true_eq] at h
  exact ⟨h.2, h.1⟩

theorem ok_small {n w : Nat} {ps : List Rsn} (hn : n < 4294967296) : (Rsn.mk n w ps).ok = true ↔ Pri n ∧ w = 0 ∧ ps = [] := by
  unfold Rsn.ok
  rw [if_pos hn]
  simp [priB_iff]

theorem ok_great {n w : Nat} {ps : List Rsn} (hn : ¬ n < 4294967296) : (Rsn.mk n w ps).ok = true ↔ (∀ r ∈ ps, r.ok = true) ∧ great n w (ps.map Rsn.n) = true := by
  conv => lhs; unfold Rsn.ok
  rw [if_neg hn]
  simp [oks_iff]

theorem great_nil {n w : Nat} (hn : ¬ n < 4294967296) : great n w [] = false := by
  have : ¬ n < 1 := by omega
  simp [great, rises, fprod, pr, this]

theorem great_w {n w : Nat} {qs : List Nat} (h : great n w qs = true) : 1 < w ∧ w < n := by
  simp only [great, Bool.and_eq_true, decide_eq_true_eq] at h
  exact ⟨h.1.1.1.2, h.1.1.2⟩

theorem great_rises {n w : Nat} {qs : List Nat} (h : great n w qs = true) : rises qs = true := by
  simp only [great, Bool.and_eq_true, decide_eq_true_eq] at h
  exact h.1.1.1.1.1.1

theorem great_dvd {n w : Nat} {qs : List Nat} (h : great n w qs = true) : ∀ q ∈ qs, (n - 1) % q = 0 := by
  simp only [great, Bool.and_eq_true, decide_eq_true_eq, List.all_eq_true, beq_iff_eq] at h
  exact h.1.1.1.1.1.2

/-- Two neighbours that don't rise. -/
theorem rises_no {l : List Nat} {i a b : Nat} (hi : i + 1 < l.length) (ha : l.getD i 0 = a) (hb : l.getD (i + 1) 0 = b) (h : b ≤ a) : rises l = false := by
  rcases hr : rises l with _ | _
  · rfl
  · have := rises_at hr i hi
    omega

theorem cnt_part {r p : Rsn} (hp : p ∈ r.ps) : p.cnt < r.cnt := by
  cases r with
  | mk n w ps =>
      have := cnts_mem (l := ps) hp
      simp only [Rsn.cnt]
      omega

/-- The parts of a reason that holds hold by themselves. -/
theorem holds_parts {r p : Rsn} (h : r.holds = true) (hp : p ∈ r.ps) : p.holds = true := by
  obtain ⟨h1, h2⟩ := holds_ok h
  have := cnt_part hp
  have hok : p.ok = true := by
    cases r with
    | mk n w ps =>
        rcases Decidable.em (n < 4294967296) with hn | hn
        · have := ((ok_small hn).mp h1).2.2
          simp [Rsn.ps] at hp
          rw [this] at hp
          simp at hp
        · exact ((ok_great hn).mp h1).1 p hp
  simp only [Rsn.holds, Bool.and_eq_true, decide_eq_true_eq]
  exact ⟨by omega, hok⟩

theorem holds_len {r : Rsn} (h : r.holds = true) : r.ps.length < 32 := by
  obtain ⟨h1, h2⟩ := holds_ok h
  cases r with
  | mk n w ps =>
      have := length_le_cnts ps
      simp only [Rsn.cnt] at h2
      simp only [Rsn.ps]
      omega

end Go.Proofs.Ytfjploahkodekaa.Pr
