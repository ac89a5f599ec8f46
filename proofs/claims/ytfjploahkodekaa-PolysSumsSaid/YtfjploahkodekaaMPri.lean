/-
  Numbers that are prime, and why: Fermat's, Wilson's and Pocklington's sentences. Nothing here speaks of the program.
-/

namespace Go.Proofs.Ytfjploahkodekaa.Pr
set_option maxRecDepth 100000
set_option linter.unusedSimpArgs false
set_option linter.unusedVariables false

/-- A number with no divisor but 1 and itself. -/
def Pri (n : Nat) : Prop := 2 ≤ n ∧ ∀ d, d ∣ n → d = 1 ∨ d = n

theorem Pri.cop {p a : Nat} (hp : Pri p) (h : ¬ p ∣ a) : Nat.gcd p a = 1 := by
  rcases hp.2 _ (Nat.gcd_dvd_left p a) with h1 | h1
  · exact h1
  · exact absurd (h1 ▸ Nat.gcd_dvd_right p a) h

theorem Pri.dvd_mul {p a b : Nat} (hp : Pri p) (h : p ∣ a * b) : p ∣ a ∨ p ∣ b := by
  rcases Decidable.em (p ∣ a) with ha | ha
  · exact Or.inl ha
  · exact Or.inr (Nat.Coprime.dvd_of_dvd_mul_left (hp.cop ha) h)

theorem not_pri {n : Nat} (h2 : 2 ≤ n) (h : ¬ Pri n) : ∃ d e, n = d * e ∧ 2 ≤ d ∧ d ≤ e := by
  have h' : ∃ d, d ∣ n ∧ d ≠ 1 ∧ d ≠ n := Classical.byContradiction fun hc => h ⟨h2, fun d hd =>
    (Decidable.em (d = 1)).elim Or.inl fun h1 => (Decidable.em (d = n)).elim Or.inr fun hn => absurd ⟨d, hd, h1, hn⟩ hc⟩
  obtain ⟨d, ⟨e, hde⟩, h1, hn⟩ := h'
  have hd0 : d ≠ 0 := fun h0 => by subst h0; rw [Nat.zero_mul] at hde; omega
  have he0 : e ≠ 0 := fun h0 => by subst h0; rw [Nat.mul_zero] at hde; omega
  have he1 : e ≠ 1 := fun h0 => by subst h0; rw [Nat.mul_one] at hde; exact hn hde.symm
  rcases Nat.le_total d e with hl | hl
  · exact ⟨d, e, hde, by omega, hl⟩
  · exact ⟨e, d, by rw [hde, Nat.mul_comm], by omega, hl⟩

theorem ex_pri : ∀ k n : Nat, n ≤ k → 2 ≤ n → ∃ p, Pri p ∧ p ∣ n ∧ (p * p ≤ n ∨ Pri n)
  | 0, n, hk, h2 => by omega
  | k + 1, n, hk, h2 => by
      rcases Classical.em (Pri n) with hp | hp
      · exact ⟨n, hp, Nat.dvd_refl n, Or.inr hp⟩
      · obtain ⟨d, e, hde, hd, hle⟩ := not_pri h2 hp
        have hdn : d < n := by
          have := Nat.mul_le_mul_left d (show 2 ≤ e by omega)
          rw [← hde] at this; omega
        obtain ⟨p, hpp, hpd, _⟩ := ex_pri k d (by omega) hd
        have hpl : p ≤ d := Nat.le_of_dvd (by omega) hpd
        exact ⟨p, hpp, Nat.dvd_trans hpd ⟨e, hde⟩, Or.inl (hde ▸ Nat.mul_le_mul hpl (Nat.le_trans hpl hle))⟩

/-- Whoever has no divisor up to its root is prime. -/
theorem pri_of_small {n : Nat} (h2 : 2 ≤ n) (h : ∀ d, 2 ≤ d → d * d ≤ n → n % d ≠ 0) : Pri n := by
  rcases Classical.em (Pri n) with hp | hp
  · exact hp
  · obtain ⟨d, e, hde, hd, hle⟩ := not_pri h2 hp
    exact absurd (by rw [hde]; exact Nat.mul_mod_right d e) (h d hd (hde ▸ Nat.mul_le_mul_left d hle))

theorem not_pri_of {n d : Nat} (h2 : 2 ≤ d) (hd : d < n) (h : n % d = 0) : ¬ Pri n := fun hp => by
  rcases hp.2 d (Nat.dvd_of_mod_eq_zero h) with h1 | h1 <;> omega

/-! ### lists that hold the same numbers -/
theorem perm_of_sub : ∀ (l m : List Nat), l.Nodup → (∀ x ∈ l, x ∈ m) → m.length ≤ l.length → l.Perm m
  | [], m, _, _, hl => by
      have : m = [] := List.eq_nil_of_length_eq_zero (by simpa using hl)
      rw [this]
  | x :: l, m, hn, hs, hl => by
      have hx : x ∈ m := hs x (List.mem_cons_self ..)
      have hn' := List.nodup_cons.mp hn
      have ih := perm_of_sub l (m.erase x) hn'.2 (fun y hy => (List.mem_erase_of_ne (fun h => by subst h; exact hn'.1 hy)).mpr (hs y (List.mem_cons_of_mem _ hy)))
        (by rw [List.length_erase_of_mem hx]; simp only [List.length_cons] at hl; omega)
      exact (ih.cons x).trans (List.perm_cons_erase hx).symm

def pr (l : List Nat) : Nat := l.foldr (· * ·) 1
theorem pr_nil : pr [] = 1 := rfl
theorem pr_cons (x : Nat) (l : List Nat) : pr (x :: l) = x * pr l := rfl
theorem pr_append (l m : List Nat) : pr (l ++ m) = pr l * pr m := by
  induction l with
  | nil => simp [pr_nil]
  | cons x l ih => simp only [List.cons_append, pr_cons, ih, Nat.mul_assoc]
theorem pr_perm {l m : List Nat} (h : l.Perm m) : pr l = pr m := by
  induction h with
  | nil => rfl
  | cons x _ ih => simp only [pr_cons, ih]
  | swap x y l => simp only [pr_cons]; rw [← Nat.mul_assoc, ← Nat.mul_assoc, Nat.mul_comm y x]
  | trans _ _ h1 h2 => exact h1.trans h2

theorem pr_map (a p : Nat) (l : List Nat) : pr (l.map fun x => a * x % p) % p = a ^ l.length * pr l % p := by
  induction l with
  | nil => simp [pr_nil]
  | cons x l ih =>
      simp only [List.map_cons, pr_cons, List.length_cons, Nat.pow_succ]
      rw [Nat.mul_mod, Nat.mod_mod, ih, ← Nat.mul_mod]
      congr 1
      rw [Nat.mul_assoc, Nat.mul_left_comm x, ← Nat.mul_assoc a, Nat.mul_comm a (a ^ l.length), Nat.mul_assoc (a ^ l.length)]

theorem pr_cop (p : Nat) (hp : Pri p) : ∀ l : List Nat, (∀ x ∈ l, ¬ p ∣ x) → ¬ p ∣ pr l
  | [], _, h => by
      have := Nat.le_of_dvd (by decide) h
      have := hp.1
      rw [pr_nil] at *
      omega
  | x :: l, hl, h => by
      rw [pr_cons] at h
      rcases hp.dvd_mul h with h1 | h1
      · exact hl x (List.mem_cons_self ..) h1
      · exact pr_cop p hp l (fun y hy => hl y (List.mem_cons_of_mem _ hy)) h1

theorem mod_cancel {p a x y : Nat} (hp : Pri p) (ha : ¬ p ∣ a) (h : a * x % p = a * y % p) : x % p = y % p := by
  have key : ∀ x y : Nat, x ≤ y → a * x % p = a * y % p → x % p = y % p := by
    intro x y hxy h
    have h1 : p ∣ a * (y - x) := by
      rw [Nat.mul_sub]
      exact Nat.dvd_of_mod_eq_zero (Nat.sub_mod_eq_zero_of_mod_eq h.symm)
    rcases hp.dvd_mul h1 with h2 | h2
    · exact absurd h2 ha
    · obtain ⟨k, hk⟩ := h2
      have : y = x + p * k := by omega
      rw [this, Nat.add_mul_mod_self_left]
  rcases Nat.le_total x y with hl | hl
  · exact key x y hl h
  · exact (key y x hl h.symm).symm

/-- Fermat's sentence. -/
theorem fermat {p a : Nat} (hp : Pri p) (ha : ¬ p ∣ a) : a ^ (p - 1) % p = 1 := by
  have hp2 := hp.1
  let L := List.range' 1 (p - 1)
  have hL : ∀ x ∈ L, 1 ≤ x ∧ x < p := fun x hx => by
    have := List.mem_range'_1.mp hx
    omega
  have hnd : ∀ x ∈ L, ¬ p ∣ x := fun x hx h => by
    have := Nat.le_of_dvd (by have := (hL x hx).1; omega) h
    have := (hL x hx).2
    omega
  have hN : L.Nodup := List.nodup_range'
  have hM : (L.map fun x => a * x % p).Nodup := by
    refine List.pairwise_map.mpr (List.Pairwise.imp_of_mem ?_ hN)
    intro x y hx hy hne he
    have := mod_cancel hp ha he
    rw [Nat.mod_eq_of_lt (hL x hx).2, Nat.mod_eq_of_lt (hL y hy).2] at this
    exact hne this
  have hperm : (L.map fun x => a * x % p).Perm L := by
    refine perm_of_sub _ _ hM ?_ (by simp)
    intro y hy
    obtain ⟨x, hx, rfl⟩ := List.mem_map.mp hy
    refine List.mem_range'_1.mpr ⟨?_, ?_⟩
    · rcases Nat.eq_zero_or_pos (a * x % p) with h0 | h0
      · rcases hp.dvd_mul (Nat.dvd_of_mod_eq_zero h0) with h1 | h1
        · exact absurd h1 ha
        · exact absurd h1 (hnd x hx)
      · exact h0
    · have := Nat.mod_lt (a * x) (show 0 < p by omega)
      omega
  have h1 := pr_map a p L
  rw [pr_perm hperm] at h1
  have hlen : L.length = p - 1 := List.length_range'
  rw [hlen] at h1
  have h2 : pr L * 1 % p = pr L * a ^ (p - 1) % p := by rw [Nat.mul_one, h1, Nat.mul_comm]
  have h3 := mod_cancel hp (pr_cop p hp L hnd) h2
  rw [← h3, Nat.mod_eq_of_lt (by omega)]

/-! ### powers that leave 1 -/
theorem pow_one_mul {w p a : Nat} (h1 : 1 < p) (h : w ^ a % p = 1) (k : Nat) : w ^ (a * k) % p = 1 := by
  rw [Nat.pow_mul, Nat.pow_mod, h, Nat.one_pow, Nat.mod_eq_of_lt h1]

theorem pow_one_gcd {w p : Nat} (h1 : 1 < p) (a b : Nat) : w ^ a % p = 1 → w ^ b % p = 1 → w ^ Nat.gcd a b % p = 1 := by
  induction a, b using Nat.gcd.induction with
  | H0 n => intro _ h; rw [Nat.gcd_zero_left]; exact h
  | H1 m n hm ih =>
      intro ha hb
      rw [Nat.gcd_rec]
      refine ih ?_ ha
      have hd : n = m * (n / m) + n % m := (Nat.div_add_mod n m).symm
      have hb' : w ^ (m * (n / m)) * w ^ (n % m) % p = 1 := by rw [← Nat.pow_add, ← hd]; exact hb
      rw [Nat.mul_mod, pow_one_mul h1 ha, Nat.one_mul, Nat.mod_mod] at hb'
      exact hb'

theorem Pri.pow_cop {q : Nat} (hq : Pri q) {k : Nat} (h : ¬ q ∣ k) (e : Nat) : Nat.Coprime (q ^ e) k :=
  Nat.Coprime.pow_left e (hq.cop h)

theorem pri_pow_cop {q r : Nat} (hq : Pri q) (hr : Pri r) (hne : q ≠ r) (e f : Nat) : Nat.Coprime (q ^ e) (r ^ f) :=
  Nat.Coprime.pow e f (hq.cop fun h => by
    have := hq.1
    rcases hr.2 q h with h1 | h1 <;> omega)

theorem prod_dvd (m : Nat) : ∀ L : List (Nat × Nat), (L.map Prod.fst).Nodup → (∀ x ∈ L, Pri x.1 ∧ x.1 ^ x.2 ∣ m) →
    pr (L.map fun x => x.1 ^ x.2) ∣ m
  | [], _, _ => by simp [pr_nil]
  | x :: L, hn, h => by
      simp only [List.map_cons] at hn
      have hn' := List.nodup_cons.mp hn
      simp only [List.map_cons, pr_cons]
      refine Nat.Coprime.mul_dvd_of_dvd_of_dvd ?_ (h x (List.mem_cons_self ..)).2 (prod_dvd m L hn'.2 fun y hy => h y (List.mem_cons_of_mem _ hy))
      have hx := (h x (List.mem_cons_self ..)).1
      have : ∀ M : List (Nat × Nat), (∀ y ∈ M, Pri y.1 ∧ y.1 ≠ x.1) → Nat.Coprime (x.1 ^ x.2) (pr (M.map fun x => x.1 ^ x.2)) := by
        intro M hM
        induction M with
        | nil => simp [pr_nil, Nat.Coprime]
        | cons y M ih =>
            simp only [List.map_cons, pr_cons]
            refine Nat.Coprime.mul_right (pri_pow_cop hx (hM y (List.mem_cons_self ..)).1 (Ne.symm (hM y (List.mem_cons_self ..)).2) _ _) (ih fun z hz => hM z (List.mem_cons_of_mem _ hz))
      exact this L fun y hy => ⟨(h y (List.mem_cons_of_mem _ hy)).1, fun he => hn'.1 (he ▸ List.mem_map_of_mem hy)⟩

/-- Pocklington's sentence. -/
theorem pock (N w : Nat) (L : List (Nat × Nat)) (h2 : 2 ≤ N) (hn : (L.map Prod.fst).Nodup) (hF : N < pr (L.map fun x => x.1 ^ x.2) * pr (L.map fun x => x.1 ^ x.2))
    (hw : w ^ (N - 1) % N = 1)
    (h : ∀ x ∈ L, Pri x.1 ∧ x.1 ^ x.2 ∣ N - 1 ∧ x.1 ∣ N - 1 ∧ ∀ p, p ∣ N → w ^ ((N - 1) / x.1) % p = 1 → p = 1) : Pri N := by
  obtain ⟨p, hp, hpN, hs | hs⟩ := ex_pri N N (Nat.le_refl N) h2
  · exfalso
    have hp2 := hp.1
    have hwp : w ^ (N - 1) % p = 1 := by
      have : w ^ (N - 1) % N % p = w ^ (N - 1) % p := Nat.mod_mod_of_dvd _ hpN
      rw [hw, Nat.mod_eq_of_lt (by omega)] at this
      exact this.symm
    have hpw : ¬ p ∣ w := fun hd => by
      have : w ^ (N - 1) % p = 0 := Nat.mod_eq_zero_of_dvd (Nat.dvd_trans hd (by rw [show N - 1 = (N - 2) + 1 by omega, Nat.pow_succ]; exact Nat.dvd_mul_left _ _))
      omega
    have hf := fermat hp hpw
    have hg := pow_one_gcd (show 1 < p by omega) (N - 1) (p - 1) hwp hf
    have hd : pr (L.map fun x => x.1 ^ x.2) ∣ p - 1 := by
      refine prod_dvd (p - 1) L hn fun x hx => ⟨(h x hx).1, ?_⟩
      obtain ⟨hq, he, hq1, hno⟩ := h x hx
      obtain ⟨k, hk⟩ := Nat.gcd_dvd_left (N - 1) (p - 1)
      have hqk : ¬ x.1 ∣ k := by
        rintro ⟨j, hj⟩
        have hdiv : (N - 1) / x.1 = Nat.gcd (N - 1) (p - 1) * j := by
          refine Nat.div_eq_of_eq_mul_left (by have := hq.1; omega) ?_
          rw [Nat.mul_assoc, Nat.mul_comm j, ← hj]
          exact hk
        have := hno p hpN (by rw [hdiv]; exact pow_one_mul (by omega) hg j)
        omega
      have : x.1 ^ x.2 ∣ Nat.gcd (N - 1) (p - 1) * k := by rw [← hk]; exact he
      exact Nat.dvd_trans (Nat.Coprime.dvd_of_dvd_mul_right (hq.pow_cop hqk _) this) (Nat.gcd_dvd_right _ _)
    have hle := Nat.le_of_dvd (by omega) hd
    have := Nat.mul_le_mul (Nat.le_trans hle (Nat.sub_le p 1)) (Nat.le_trans hle (Nat.sub_le p 1))
    omega
  · exact hs

/-! ### Wilson's sentence -/
def fac : Nat → Nat
  | 0 => 1
  | n + 1 => fac n * (n + 1)

theorem pr_range (k : Nat) : pr (List.range' 1 k) = fac k := by
  induction k with
  | zero => rfl
  | succ k ih =>
      rw [List.range'_concat, pr_append, ih]
      simp only [pr_cons, pr_nil, fac, Nat.one_mul, Nat.mul_one, Nat.add_comm 1 k]

theorem dvd_fac {d : Nat} (h0 : 0 < d) : ∀ n, d ≤ n → d ∣ fac n
  | 0, h => by omega
  | n + 1, h => by
      rcases Nat.lt_or_ge n d with h1 | h1
      · have : d = n + 1 := by omega
        rw [this]
        exact Nat.dvd_mul_left _ _
      · exact Nat.dvd_trans (dvd_fac h0 n h1) (Nat.dvd_mul_right _ _)

theorem inv_pairs (p : Nat) (hp : Pri p) : ∀ (k : Nat) (l : List Nat), l.length ≤ k → l.Nodup → (∀ x ∈ l, x < p ∧ ¬ p ∣ x ∧ ∃ y ∈ l, y ≠ x ∧ x * y % p = 1) → pr l % p = 1
  | _, [], _, _, _ => by
      have := hp.1
      exact Nat.mod_eq_of_lt (by rw [pr_nil]; omega)
  | 0, x :: l, hk, _, _ => by simp at hk
  | k + 1, x :: l, hk, hn, h => by
      have hn' := List.nodup_cons.mp hn
      obtain ⟨hxp, hxd, y, hy, hne, hxy⟩ := h x (List.mem_cons_self ..)
      have hyl : y ∈ l := by
        rcases List.mem_cons.mp hy with h1 | h1
        · exact absurd h1 hne
        · exact h1
      have hperm := List.perm_cons_erase hyl
      have ih := inv_pairs p hp k (l.erase y) (by rw [List.length_erase_of_mem hyl]; simp only [List.length_cons] at hk; omega) (hn'.2.erase y) (by
        intro z hz
        have hzl := (hn'.2.mem_erase_iff.mp hz)
        obtain ⟨hzp, hzd, u, hu, hune, hzu⟩ := h z (List.mem_cons_of_mem _ hzl.2)
        refine ⟨hzp, hzd, u, ?_, hune, hzu⟩
        have hux : u ≠ x := fun he => by
          subst he
          have : u * z % p = u * y % p := by rw [Nat.mul_comm u z, hzu, hxy]
          have := mod_cancel hp hxd this
          rw [Nat.mod_eq_of_lt hzp, Nat.mod_eq_of_lt (h y (List.mem_cons_of_mem _ hyl)).1] at this
          exact hzl.1 this
        have huy : u ≠ y := fun he => by
          subst he
          have hyd : ¬ p ∣ u := (h u (List.mem_cons_of_mem _ hyl)).2.1
          have : u * z % p = u * x % p := by rw [Nat.mul_comm u z, hzu, Nat.mul_comm u x, hxy]
          have := mod_cancel hp hyd this
          rw [Nat.mod_eq_of_lt hzp, Nat.mod_eq_of_lt hxp] at this
          exact hn'.1 (this ▸ hzl.2)
        refine hn'.2.mem_erase_iff.mpr ⟨huy, ?_⟩
        rcases List.mem_cons.mp hu with h1 | h1
        · exact absurd h1 hux
        · exact h1)
      rw [pr_cons, pr_perm hperm, pr_cons, ← Nat.mul_assoc, Nat.mul_mod, hxy, ih]
      exact Nat.mod_eq_of_lt hp.1

theorem pri_inv {p x : Nat} (hp : Pri p) (hx : ¬ p ∣ x) : ∃ y, y < p ∧ x * y % p = 1 := by
  have hp2 := hp.1
  refine ⟨x ^ (p - 2) % p, Nat.mod_lt _ (by omega), ?_⟩
  rw [Nat.mul_mod, Nat.mod_mod, ← Nat.mul_mod, Nat.mul_comm, ← Nat.pow_succ]
  rw [show (p - 2).succ = p - 1 by omega]
  exact fermat hp hx

theorem wilson {p : Nat} (hp : Pri p) : fac (p - 1) % p = p - 1 := by
  have hp2 := hp.1
  rcases Nat.lt_or_ge p 3 with h3 | h3
  · have : p = 2 := by omega
    subst this
    rfl
  · have h1 : pr (List.range' 2 (p - 3)) % p = 1 := by
      refine inv_pairs p hp _ _ (Nat.le_refl _) List.nodup_range' ?_
      intro x hx
      have hx' := List.mem_range'_1.mp hx
      have hxd : ¬ p ∣ x := fun hd => by have := Nat.le_of_dvd (by omega) hd; omega
      refine ⟨by omega, hxd, ?_⟩
      obtain ⟨y, hy, hxy⟩ := pri_inv hp hxd
      have h0 : y ≠ 0 := fun h => by subst h; simp at hxy
      have hy1 : y ≠ 1 := fun h => by
        subst h
        rw [Nat.mul_one, Nat.mod_eq_of_lt (by omega)] at hxy
        omega
      have hyp : y ≠ p - 1 := fun h => by
        subst h
        have e : x * (p - 1) + x = x * p := by rw [← Nat.mul_succ]; congr 1; omega
        have : (x * (p - 1) + x) % p = 0 := by rw [e, Nat.mul_mod_left]
        rw [Nat.add_mod, hxy, Nat.mod_eq_of_lt (show x < p by omega)] at this
        rw [Nat.mod_eq_of_lt (by omega)] at this
        omega
      refine ⟨y, List.mem_range'_1.mpr ⟨by omega, by omega⟩, ?_, hxy⟩
      intro he
      subst he
      have e : (y - 1) * (y + 1) = y * y - 1 := by
        have : y = (y - 1) + 1 := by omega
        generalize y - 1 = t at this
        subst this
        rw [Nat.add_mul, Nat.mul_add, Nat.mul_add]
        omega
      have hd : p ∣ (y - 1) * (y + 1) := by
        rw [e]
        exact Nat.dvd_of_mod_eq_zero (Nat.sub_mod_eq_zero_of_mod_eq (by rw [hxy, Nat.mod_eq_of_lt (by omega)]))
      rcases hp.dvd_mul hd with h | h
      · have := Nat.le_of_dvd (by omega) h; omega
      · have := Nat.le_of_dvd (by omega) h; omega
    have h2 : fac (p - 1) = (1 * pr (List.range' 2 (p - 3))) * (p - 1) := by
      rw [show p - 1 = (p - 2) + 1 by omega]
      simp only [fac]
      congr 1
      rw [← pr_range, show p - 2 = (p - 3) + 1 by omega]
      rfl
    rw [h2, Nat.one_mul, Nat.mul_mod, h1, Nat.one_mul, Nat.mod_mod, Nat.mod_eq_of_lt (by omega)]

theorem wilson_back {n : Nat} (h2 : 2 ≤ n) (h : fac (n - 1) % n = n - 1) : Pri n := by
  rcases Classical.em (Pri n) with hp | hp
  · exact hp
  · obtain ⟨d, e, hde, hd, hle⟩ := not_pri h2 hp
    have hdn : d < n := by
      have := Nat.mul_le_mul_left d (show 2 ≤ e by omega)
      rw [← hde] at this; omega
    have h1 : d ∣ fac (n - 1) := dvd_fac (by omega) _ (by omega)
    have h3 : d ∣ fac (n - 1) % n := (Nat.dvd_mod_iff ⟨e, hde⟩).mpr h1
    rw [h] at h3
    have h4 : d ∣ n := ⟨e, hde⟩
    have h5 : d ∣ n - (n - 1) := Nat.dvd_sub h4 h3
    have := Nat.le_of_dvd (by omega) h5
    omega

end Go.Proofs.Ytfjploahkodekaa.Pr
