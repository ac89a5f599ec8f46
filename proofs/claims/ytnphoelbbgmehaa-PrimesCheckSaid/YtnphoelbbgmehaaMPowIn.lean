/-
 Reasons: when one holds, and that its number is prime then. Nothing here speaks of the program.
-/
import Derived.Deep.Cut
import Derived.Test.YtnphoelbbgmehaaRows
import Derived.WalkKit
import Derived.Below
import Derived.Deep.LoopGhost
import Derived.Lib.Hide
import Derived.Test.YtnphoelbbgmehaaMAdd
import Derived.Test.YtnphoelbbgmehaaMPri
import Derived.Test.YtnphoelbbgmehaaMRCommon
import Derived.Test.YtnphoelbbgmehaaMShiftN
import Derived.Test.YtnphoelbbgmehaaMWide
namespace Go.Proofs.Ytnphoelbbgmehaa.Pr
set_option maxRecDepth 100000
set_option linter.unusedSimpArgs false
set_option linter.unusedVariables false

/-! ### the greatest power that divides a number -/
/-- How often a number goes into another one, at most so often. -/
def vp (q : Nat) : Nat → Nat → Nat
 | 0, _ => 0
 | k + 1, m => if m % q = 0 then vp q k (m / q) + 1 else 0

def ex (q m : Nat) : Nat := vp q m m
def gp (q m : Nat) : Nat := q ^ ex q m

theorem vp_dvd (q : Nat) : ∀ k m, q ^ vp q k m ∣ m
 | 0, m => by simp [vp]
 | k + 1, m => by
   unfold vp
   split
   ·rename_i h
    rw [Nat.pow_succ]
    have := vp_dvd q k (m / q)
    obtain ⟨c, hc⟩ := this
    refine ⟨c, ?_⟩
    have hm : q * (m / q) = m := Nat.mul_div_cancel' (Nat.dvd_of_mod_eq_zero h)
    calc m = q * (m / q) := hm.symm
     _ = q * (q ^ vp q k (m / q) * c) := by rw [← hc]
     _ = q ^ vp q k (m / q) * q * c := by rw [← Nat.mul_assoc, Nat.mul_comm q]
   ·simp

theorem vp_max (q : Nat) (h2 : 2 ≤ q) : ∀ k m, 0 < m → m ≤ k → ¬ q ^ (vp q k m + 1) ∣ m
 | 0, m, h0, hk => by omega
 | k + 1, m, h0, hk => by
   unfold vp
   split
   ·rename_i h
    have hm : q * (m / q) = m := Nat.mul_div_cancel' (Nat.dvd_of_mod_eq_zero h)
    have hd0 : 0 < m / q := Nat.pos_of_ne_zero fun h => by rw [h, Nat.mul_zero] at hm; omega
    have hlt : m / q < m := Nat.div_lt_self h0 (by omega)
    have ih := vp_max q h2 k (m / q) hd0 (by omega)
    intro hd
    rw [Nat.pow_succ] at hd
    refine ih ?_
    obtain ⟨c, hc⟩ := hd
    refine ⟨c, Nat.eq_of_mul_eq_mul_left (show 0 < q by omega) ?_⟩
    rw [hm, ← Nat.mul_assoc, Nat.mul_comm q]
    exact hc
   ·rename_i h
    intro hd
    rw [Nat.zero_add, Nat.pow_one] at hd
    exact h (Nat.mod_eq_zero_of_dvd hd)

theorem gp_dvd (q m : Nat) : gp q m ∣ m := vp_dvd q m m
theorem gp_max {q m : Nat} (h2 : 2 ≤ q) (h0 : 0 < m) : ¬ gp q m * q ∣ m := by
 unfold gp ex
 rw [← Nat.pow_succ]
 exact vp_max q h2 m m h0 (Nat.le_refl m)

/-- Whoever is a power that divides, while the next one does not, is the greatest one. -/
theorem gp_of {q m e : Nat} (h2 : 2 ≤ q) (h0 : 0 < m) (h : q ^ e ∣ m) (hn : ¬ q ^ e * q ∣ m) : gp q m = q ^ e := by
 have h1 : e ≤ ex q m := by
  rcases Nat.lt_or_ge (ex q m) e with hl | hl
  ·exfalso
   refine vp_max q h2 m m h0 (Nat.le_refl m) (Nat.dvd_trans (Nat.pow_dvd_pow q ?_) h)
   exact hl
  ·exact hl
 have h3 : ex q m ≤ e := by
  rcases Nat.lt_or_ge e (ex q m) with hl | hl
  ·exfalso
   rw [← Nat.pow_succ] at hn
   exact hn (Nat.dvd_trans (Nat.pow_dvd_pow q hl) (vp_dvd q m m))
  ·exact hl
 unfold gp
 rw [Nat.le_antisymm h3 h1]

/-! ### reasons -/
inductive Rsn where
 | mk (n w : Nat) (ps : List Rsn)

def Rsn.n : Rsn → Nat | .mk n _ _ => n
def Rsn.w : Rsn → Nat | .mk _ w _ => w
def Rsn.ps : Rsn → List Rsn | .mk _ _ ps => ps

mutual
/-- Reasons in a reason, all together, with itself. -/
def Rsn.cnt : Rsn → Nat
 | .mk _ _ ps => cnts ps + 1
def cnts : List Rsn → Nat
 | [] => 0
 | r :: rs => r.cnt + cnts rs
end

open Classical in
noncomputable def priB (n : Nat) : Bool := decide (Pri n)
theorem priB_iff {n : Nat} : priB n = true ↔ Pri n := by simp [priB]
theorem priB_not {n : Nat} : priB n = false ↔ ¬ Pri n := by simp [priB]

/-- The numbers rise. -/
def rises : List Nat → Bool
 | [] => true
 | [_] => true
 | a :: b :: l => decide (a < b) && rises (b :: l)

/-- The product of the greatest powers. -/
def fprod (m : Nat) (qs : List Nat) : Nat := pr (qs.map fun q => gp q m)

/-- What is asked of a great number, its witness and its parts' numbers, but for the parts themselves. -/
def great (n w : Nat) (qs : List Nat) : Bool :=
 rises qs && (qs.all fun q => (n - 1) % q == 0) && decide (n < fprod (n - 1) qs * fprod (n - 1) qs) && decide (1 < w) && decide (w < n) && decide (w ^ (n - 1) % n = 1)
  && qs.all fun q => decide (Nat.gcd ((w ^ ((n - 1) / q) % n + n - 1) % n) n = 1)

mutual
/-- When a reason holds, but for how many are in it. -/
noncomputable def Rsn.ok : Rsn → Bool
 | .mk n w ps => if n < 4294967296 then priB n && (decide (w = 0) && ps.isEmpty) else oks ps && great n w (ps.map Rsn.n)
noncomputable def oks : List Rsn → Bool
 | [] => true
 | r :: rs => r.ok && oks rs
end

/-- When a reason holds. -/
noncomputable def Rsn.holds (r : Rsn) : Bool := decide (r.cnt ≤ 32) && r.ok

theorem oks_iff : ∀ {l : List Rsn}, oks l = true ↔ ∀ r ∈ l, r.ok = true
 | [] => by simp [oks]
 | r :: rs => by simp [oks, oks_iff (l := rs)]

theorem cnts_mem : ∀ {l : List Rsn} {r : Rsn}, r ∈ l → r.cnt ≤ cnts l
 | x :: l, r, h => by
   rcases List.mem_cons.mp h with h | h
   ·subst h; simp only [cnts]; omega
   ·have := cnts_mem h; simp only [cnts]; omega

theorem cnt_pos (r : Rsn) : 0 < r.cnt := by
 cases r
 simp only [Rsn.cnt]
 omega

theorem rises_lt : ∀ {l : List Nat} {a : Nat}, rises (a :: l) = true → ∀ b ∈ l, a < b
 | x :: l, a, h, b, hb => by
   simp only [rises, Bool.and_eq_true, decide_eq_true_eq] at h
   rcases List.mem_cons.mp hb with h1 | h1
   ·subst h1; exact h.1
   ·exact Nat.lt_trans h.1 (rises_lt h.2 b h1)
theorem rises_tail {a : Nat} {l : List Nat} (h : rises (a :: l) = true) : rises l = true := by
 cases l with
 | nil => rfl
 | cons b l => simp only [rises, Bool.and_eq_true] at h; exact h.2
theorem rises_nodup : ∀ {l : List Nat}, rises l = true → l.Nodup
 | [], _ => List.nodup_nil
 | a :: l, h => List.nodup_cons.mpr ⟨fun hm => Nat.lt_irrefl a (rises_lt h a hm), rises_nodup (rises_tail h)⟩

/-- Neighbours rise: all do. -/
theorem rises_of : ∀ {l : List Nat}, (∀ i, i + 1 < l.length → l.getD i 0 < l.getD (i + 1) 0) → rises l = true
 | [], _ => rfl
 | [_], _ => rfl
 | a :: b :: l, h => by
   simp only [rises, Bool.and_eq_true, decide_eq_true_eq]
   refine ⟨by simpa using h 0 (by simp), rises_of fun i hi => ?_⟩
   have := h (i + 1) (by simpa using hi)
   simpa using this
theorem rises_at : ∀ {l : List Nat}, rises l = true → ∀ i, i + 1 < l.length → l.getD i 0 < l.getD (i + 1) 0
 | [], _, i, hi => by simp at hi
 | [_], _, i, hi => by simp at hi
 | a :: b :: l, h, i, hi => by
   simp only [rises, Bool.and_eq_true, decide_eq_true_eq] at h
   cases i with
   | zero => simpa using h.1
   | succ i => simpa using rises_at h.2 i (by simpa using hi)

theorem fprod_eq (m : Nat) (qs : List Nat) : fprod m qs = pr ((qs.map fun q => (q, ex q m)).map fun x => x.1 ^ x.2) := by
 unfold fprod
 rw [List.map_map]
 rfl

/-- Whose parts are prime, and are not alike: what they make together divides. -/
theorem fprod_dvd {m : Nat} {qs : List Nat} (hn : qs.Nodup) (hp : ∀ q ∈ qs, Pri q) : fprod m qs ∣ m := by
 rw [fprod_eq]
 refine prod_dvd m _ ?_ ?_
 ·rw [List.map_map]
  have : (Prod.fst ∘ fun q => (q, ex q m)) = id := rfl
  rw [this, List.map_id]
  exact hn
 ·intro x hx
  obtain ⟨q, hq, rfl⟩ := List.mem_map.mp hx
  exact ⟨hp q hq, gp_dvd q m⟩

theorem gcd_no {n y p : Nat} (hn : 1 < n) (hp : p ∣ n) (hy : y % p = 1) (hg : Nat.gcd ((y % n + n - 1) % n) n = 1) : p = 1 := by
 have hp0 : p ≠ 0 := fun h => by subst h; rw [Nat.zero_dvd] at hp; omega
 rcases Nat.eq_or_lt_of_le (show 1 ≤ p by omega) with h1 | h1
 ·exact h1.symm
 ·have h2 : p ∣ (y % n + n - 1) % n := by
   refine (Nat.dvd_mod_iff hp).mpr ?_
   have h3 : y % n % p = 1 := by rw [Nat.mod_mod_of_dvd _ hp]; exact hy
   have h4 : y % n = p * (y % n / p) + 1 := by
    have := Nat.div_add_mod (y % n) p
    rw [h3] at this
    exact this.symm
   have h5 : y % n + n - 1 = p * (y % n / p) + n := by omega
   rw [h5]
   exact Nat.dvd_add (Nat.dvd_mul_right _ _) hp
  have := Nat.dvd_gcd h2 hp
  rw [hg] at this
  exact Nat.dvd_one.mp this

theorem great_pri {n w : Nat} {qs : List Nat} (hn : 1 < n) (hp : ∀ q ∈ qs, Pri q) (h : great n w qs = true) : Pri n := by
 simp only [great, Bool.and_eq_true, decide_eq_true_eq, List.all_eq_true, beq_iff_eq] at h
 obtain ⟨⟨⟨⟨⟨⟨hr, hd⟩, hF⟩, hw1⟩, hwn⟩, hw⟩, hg⟩ := h
 rw [fprod_eq] at hF
 refine pock n w _ hn ?_ hF hw ?_
 ·rw [List.map_map]
  have : (Prod.fst ∘ fun q => (q, ex q (n - 1))) = id := rfl
  rw [this, List.map_id]
  exact rises_nodup hr
 ·intro x hx
  obtain ⟨q, hq, rfl⟩ := List.mem_map.mp hx
  exact ⟨hp q hq, gp_dvd q _, Nat.dvd_of_mod_eq_zero (hd q hq), fun p hpn hpw => gcd_no hn hpn hpw (hg q hq)⟩

mutual
theorem ok_pri : ∀ r : Rsn, r.ok = true → Pri r.n
 | .mk n w ps, h => by
   unfold Rsn.ok at h
   split at h
   ·simp only [Bool.and_eq_true] at h
    exact priB_iff.mp h.1
   ·simp only [Bool.and_eq_true] at h
    refine great_pri (show 1 < n by omega) ?_ h.2
    intro q hq
    obtain ⟨r, hr, rfl⟩ := List.mem_map.mp hq
    exact oks_pri ps h.1 r hr
theorem oks_pri : ∀ l : List Rsn, oks l = true → ∀ r ∈ l, Pri r.n
 | [], _, r, hr => by simp at hr
 | x :: l, h, r, hr => by
   simp only [oks, Bool.and_eq_true] at h
   rcases List.mem_cons.mp hr with h1 | h1
   ·have := ok_pri x h.1
    rw [h1]
    exact this
   ·exact oks_pri l h.2 r h1
end

/-! ### what follows -/
/-- Two neighbours that don't rise. -/
theorem rises_no {l : List Nat} {i a b : Nat} (hi : i + 1 < l.length) (ha : l.getD i 0 = a) (hb : l.getD (i + 1) 0 = b) (h : b ≤ a) : rises l = false := by
 rcases hr : rises l with _ | _
 ·rfl
 ·have := rises_at hr i hi
  omega

theorem cnt_part {r p : Rsn} (hp : p ∈ r.ps) : p.cnt < r.cnt := by
 cases r with
 | mk n w ps =>
   have := cnts_mem (l := ps) hp
   simp only [Rsn.cnt]
   omega

end Go.Proofs.Ytnphoelbbgmehaa.Pr

/-
 primes.powerIn: the greatest power of a number above 1 that divides another one, above 0.
-/
namespace Go.Proofs.Ytnphoelbbgmehaa
set_option maxRecDepth 100000
open Go.RowKit
set_option linter.unusedSimpArgs false
set_option linter.unusedVariables false
attribute [local go_sem ↓] Go.wp_at_zero Go.wp_at_succ

/-- one power more -/
theorem pow_step {m q e Q : Nat} (hd : q ^ e ∣ m) (h : m / q ^ e = Q * q + 0) : q ^ (e + 1) ∣ m ∧ m / q ^ (e + 1) = Q ∨ q = 0 := by
 rcases Nat.eq_zero_or_pos q with h0 | h0
 ·exact Or.inr h0
 ·refine Or.inl ?_
  have hm : m = q ^ (e + 1) * Q := by
   have h1 := Nat.mul_div_cancel' hd
   rw [h, Nat.add_zero] at h1
   rw [← h1, Nat.pow_succ, Nat.mul_assoc, Nat.mul_comm Q q]
  refine ⟨⟨Q, hm⟩, ?_⟩
  rw [hm, Nat.mul_div_cancel_left _ (Nat.pow_pos h0)]
theorem pow_last {m q e Q r : Nat} (h2 : 2 ≤ q) (h0 : 0 < m) (hd : q ^ e ∣ m) (h : m / q ^ e = Q * q + r) (hr : r < q) (hne : r ≠ 0) : Pr.gp q m = q ^ e := by
 refine Pr.gp_of h2 h0 hd fun hd2 => ?_
 obtain ⟨c, hc⟩ := hd2
 have hp : 0 < q ^ e := Nat.pow_pos (by omega)
 have : m / q ^ e = q * c := by rw [hc, Nat.mul_assoc, Nat.mul_div_cancel_left _ hp]
 rw [this] at h
 have h3 : q * c % q = (Q * q + r) % q := by rw [h]
 rw [Nat.mul_mod_right, Nat.mul_comm, Nat.mul_add_mod, Nat.mod_eq_of_lt hr] at h3
 omega

set_option maxRecDepth 100000 in
set_option maxHeartbeats 8000000 in
theorem powin_any (M q : Nat) (h0 : 0 < M) (hM : M < 2 ^ 256) (h2 : 2 ≤ q) (hq : q < 2 ^ 256) (w : World) : Calls Try.prog 70 #[num M, num q] w fun e w' => e = .returned (num (Pr.gp q M)) ∧ Below w.heap.size w w' := by
 have HO := Lib.hid (fun w => of_any 1 (by decide) w)
 have H0 := Lib.hid h0; have HMM := Lib.hid hM; have H2 := Lib.hid h2; have HQ := Lib.hid hq
 clear h0 hM h2 hq
 go_enter Try.func70, Try.ntmps70
 go_wp2_with fail
 have BW := Lib.hid (Below.refl w.heap.size w)
 have Eq : w.heap.size ≤ w.heap.size + 1 := by have := BW.out.size; omega
 have Dnq : w.heap.size ≠ w.heap.size + 1 := by omega
 have Ez : w.heap.size ≤ w.heap.size + 1 + 1 := by have := BW.out.size; omega
 have Dnz : w.heap.size ≠ w.heap.size + 1 + 1 := by omega
 have Dqz : w.heap.size + 1 ≠ w.heap.size + 1 + 1 := by omega
 generalize hW1 : (((w.alloc (.cells #[.int .u64 (wd M 0 : Nat), .int .u64 (wd M 1 : Nat), .int .u64 (wd M 2 : Nat), .int .u64 (wd M 3 : Nat)] 25)).alloc (.cells #[.int .u64 (wd q 0 : Nat), .int .u64 (wd q 1 : Nat), .int .u64 (wd q 2 : Nat), .int .u64 (wd q 3 : Nat)] 25)).alloc (.cells #[.int .u64 0, .int .u64 0, .int .u64 0, .int .u64 0] 25)) = W1 at *
 have Nn : At W1 (w.heap.size) _ _ := at_of hW1 (((At.at_ _ _ _ _ (by simp)).alloc _).alloc _)
 have Nq : At W1 (w.heap.size + 1) _ _ := at_of hW1 ((At.at_ _ _ _ _ (by simp)).alloc _)
 have Nz : At W1 (w.heap.size + 1 + 1) _ _ := at_of hW1 (At.at_ _ _ _ _ (by simp))
 have NB := gr_of hW1 (gr_alloc (gr_alloc (gr_alloc BW.out _) _) _)
 clear hW1 BW 
 generalize w.heap.size + 1 + 1 = gz at *
 generalize w.heap.size + 1 = gq at *
 obtain ⟨gn, hg0⟩ : ∃ g, g = w.heap.size := ⟨_, rfl⟩
 rw [← hg0] at Nn ⊢
 rw [← hg0] at Dnq Dnz
 have En : w.heap.size ≤ gn := by omega
 clear hg0
 have Fn := Lib.hid Nn
 have Fq := Lib.hid Nq
 have Fz := Lib.hid Nz
 have BW := Lib.hid NB
 clear NB Nn Nq Nz
 refine (HO.out _).mono ?_
 rintro e v2 ⟨rfl, z2⟩
 have Nn := Lib.hid (Fn.out.on z2)
 have Nq := Lib.hid (Fq.out.on z2)
 have Nz := Lib.hid (Fz.out.on z2)
 have NB := Lib.hid (bel_tr BW.out z2)
 clear BW z2 Fn Fq Fz
 have Fn := Nn
 have Fq := Nq
 have Fz := Nz
 have BW := NB
 clear NB Nn Nq Nz
 go_wp2_with fail
 have Ep : w.heap.size ≤ v2.heap.size := by have := BW.out.size; omega
 have Dnp : gn ≠ v2.heap.size := by have := Fn.out.lt; omega
 have Dqp : gq ≠ v2.heap.size := by have := Fq.out.lt; omega
 have Dzp : gz ≠ v2.heap.size := by have := Fz.out.lt; omega
 generalize hW3 : (v2.alloc (.cells #[.int .u64 (wd 1 0 : Nat), .int .u64 (wd 1 1 : Nat), .int .u64 (wd 1 2 : Nat), .int .u64 (wd 1 3 : Nat)] 25)) = W3 at *
 have Np : At W3 (v2.heap.size) _ _ := at_of hW3 (At.at_ _ _ _ _ (by simp))
 have Nn := at_of hW3 (Fn.out.alloc _)
 have Nq := at_of hW3 (Fq.out.alloc _)
 have Nz := at_of hW3 (Fz.out.alloc _)
 have NB := gr_of hW3 (gr_alloc BW.out _)
 clear hW3 BW Fn Fq Fz
 generalize v2.heap.size = gp at *
 have Fn := Lib.hid Nn
 have Fq := Lib.hid Nq
 have Fz := Lib.hid Nz
 have Fp := Lib.hid Np
 have BW := Lib.hid NB
 clear NB Nn Nq Nz Np
 go_loopw [] (fun wr => ∃ e X P : Nat, Hid (At wr gn 25 #[.int .u64 (wd X 0 : Nat), .int .u64 (wd X 1 : Nat), .int .u64 (wd X 2 : Nat), .int .u64 (wd X 3 : Nat)] ∧ At wr gq 25 #[.int .u64 (wd q 0 : Nat), .int .u64 (wd q 1 : Nat), .int .u64 (wd q 2 : Nat), .int .u64 (wd q 3 : Nat)] ∧ At wr gz 25 #[.int .u64 0, .int .u64 0, .int .u64 0, .int .u64 0] ∧ At wr gp 25 #[.int .u64 (wd P 0 : Nat), .int .u64 (wd P 1 : Nat), .int .u64 (wd P 2 : Nat), .int .u64 (wd P 3 : Nat)] ∧ Below w.heap.size w wr ∧ (X = M / q ^ e) ∧ (P = q ^ e) ∧ (q ^ e ∣ M))) (fun wr => blockVal wr gn)
 case atStart => exact ⟨0, M, 1, Fn.out, Fq.out, Fz.out, Fp.out, BW.out, by simp, by simp, by simp⟩
 case round =>
  obtain ⟨e, X, P, hM⟩ := hrel
  clear BW Fn Fq Fz Fp
  have Fn := Lib.hid hM.out.1
  have Fq := Lib.hid hM.out.2.1
  have Fz := Lib.hid hM.out.2.2.1
  have Fp := Lib.hid hM.out.2.2.2.1
  have BW := Lib.hid hM.out.2.2.2.2.1
  have HX := Lib.hid hM.out.2.2.2.2.2.1
  have HP := Lib.hid hM.out.2.2.2.2.2.2.1
  have HD := Lib.hid hM.out.2.2.2.2.2.2.2
  clear hM
  have hXM : X ≤ M := by rw [HX.out]; exact Nat.div_le_self _ _
  have hX : X < 2 ^ 256 := Nat.lt_of_le_of_lt hXM HMM.out
  have hX0 : 0 < X := by
   rw [HX.out]; exact Nat.div_pos (Nat.le_of_dvd H0.out HD.out) (Nat.pow_pos (by have := H2.out; omega))
  have HMS := Lib.hid (Fn.out.val hX)
  obtain ⟨Q, r, hQ, hr, he, CD⟩ := div_ex X q hX HQ.out (by have := H2.out; omega)
  have HCD := Lib.hid CD; have HE := Lib.hid he; have HR := Lib.hid hr; have HQ1 := Lib.hid hQ; have HX0 := Lib.hid hX0
  have eqz := eqZ r (Nat.lt_trans hr HQ.out)
  clear CD he hr hQ hX hX0 hXM
  have Ln := Fn.out.lt
  have cn0 := Fn.out.c0
  have cn1 := Fn.out.c1
  have cn2 := Fn.out.c2
  have cn3 := Fn.out.c3
  have Lq := Fq.out.lt
  have cq0 := Fq.out.c0
  have cq1 := Fq.out.c1
  have cq2 := Fq.out.c2
  have cq3 := Fq.out.c3
  go_wp2_with fail
  clear Ln cn0 cn1 cn2 cn3 Lq cq0 cq1 cq2 cq3
  have EQZ := Lib.hid eqz
  clear eqz
  refine (HCD.out _).mono ?_
  rintro e v4 ⟨rfl, z4⟩
  have Nn := Lib.hid (Fn.out.on z4)
  have Nq := Lib.hid (Fq.out.on z4)
  have Nz := Lib.hid (Fz.out.on z4)
  have Np := Lib.hid (Fp.out.on z4)
  have NB := Lib.hid (bel_tr BW.out z4)
  clear BW z4 Fn Fq Fz Fp
  have Fn := Nn
  have Fq := Nq
  have Fz := Nz
  have Fp := Np
  have BW := NB
  clear NB Nn Nq Nz Np
  go_upto_region 3 with fail
  have Dno : gn ≠ v4.heap.size := by have := Fn.out.lt; omega
  have Dqo : gq ≠ v4.heap.size := by have := Fq.out.lt; omega
  have Dzo : gz ≠ v4.heap.size := by have := Fz.out.lt; omega
  have Dpo : gp ≠ v4.heap.size := by have := Fp.out.lt; omega
  have Dnl : gn ≠ v4.heap.size + 1 := by have := Fn.out.lt; omega
  have Dql : gq ≠ v4.heap.size + 1 := by have := Fq.out.lt; omega
  have Dzl : gz ≠ v4.heap.size + 1 := by have := Fz.out.lt; omega
  have Dpl : gp ≠ v4.heap.size + 1 := by have := Fp.out.lt; omega
  generalize hW5 : ((v4.alloc (.cells #[.int .u64 (wd Q 0 : Nat), .int .u64 (wd Q 1 : Nat), .int .u64 (wd Q 2 : Nat), .int .u64 (wd Q 3 : Nat)] 25)).alloc (.cells #[.int .u64 (wd r 0 : Nat), .int .u64 (wd r 1 : Nat), .int .u64 (wd r 2 : Nat), .int .u64 (wd r 3 : Nat)] 25)) = W5 at *
  have No : At W5 (v4.heap.size) _ _ := at_of hW5 ((At.at_ _ _ _ _ (by simp)).alloc _)
  have Nl : At W5 (v4.heap.size + 1) _ _ := at_of hW5 (At.at_ _ _ _ _ (by simp))
  have Nn := at_of hW5 ((Fn.out.alloc _).alloc _)
  have Nq := at_of hW5 ((Fq.out.alloc _).alloc _)
  have Nz := at_of hW5 ((Fz.out.alloc _).alloc _)
  have Np := at_of hW5 ((Fp.out.alloc _).alloc _)
  have NB := gr_of hW5 (gr_alloc (gr_alloc BW.out _) _)
  clear hW5 BW Fn Fq Fz Fp
  generalize v4.heap.size + 1 = gl at *
  generalize v4.heap.size = go at *
  have Fn := Lib.hid Nn
  have Fq := Lib.hid Nq
  have Fz := Lib.hid Nz
  have Fp := Lib.hid Np
  have Fo := Lib.hid No
  have Fl := Lib.hid Nl
  have BW := Lib.hid NB
  clear NB Nn Nq Nz Np No Nl
  have eqz := EQZ.out
  by_cases hz : r = 0
  ·rw [decide_eq_true hz] at eqz
   have HZ := Lib.hid hz
   clear hz
   have hstep := (pow_step HD.out (Q := Q) (by rw [← HX.out, HE.out, HZ.out])).resolve_right (by have := H2.out; omega)
   have hpl : P * q ≤ M := by rw [HP.out, ← Nat.pow_succ]; exact Nat.le_of_dvd H0.out hstep.1
   obtain ⟨Lo, Hi, hLo, hHi, hm, CM⟩ := mul_ex P q (Nat.lt_of_le_of_lt (by rw [HP.out]; exact Nat.le_of_dvd H0.out HD.out) HMM.out) HQ.out
   have hM := HMM.out
   have hH0 : Hi = 0 := by omega
   subst hH0
   have hLo2 : Lo = q ^ (e + 1) := by rw [Nat.pow_succ, ← HP.out]; omega
   have HCM := Lib.hid CM; have HL := Lib.hid hLo2; have HS := Lib.hid hstep
   clear CM hLo2 hstep hM hm hHi hLo hpl
   have Ll := Fl.out.lt
   have cl0 := Fl.out.c0
   have cl1 := Fl.out.c1
   have cl2 := Fl.out.c2
   have cl3 := Fl.out.c3
   have Lo := Fo.out.lt
   have co0 := Fo.out.c0
   have co1 := Fo.out.c1
   have co2 := Fo.out.c2
   have co3 := Fo.out.c3
   have Ln := Fn.out.lt
   have cn0 := Fn.out.c0
   have cn1 := Fn.out.c1
   have cn2 := Fn.out.c2
   have cn3 := Fn.out.c3
   have fn0 : W5.frozen? ⟨gn, 0, none⟩ = false := Fn.out.frozen 0
   have fn1 : W5.frozen? ⟨gn, 1, none⟩ = false := Fn.out.frozen 1
   have fn2 : W5.frozen? ⟨gn, 2, none⟩ = false := Fn.out.frozen 2
   have fn3 : W5.frozen? ⟨gn, 3, none⟩ = false := Fn.out.frozen 3
   go_upto_region 6 with fail
   clear Ll cl0 cl1 cl2 cl3 Lo co0 co1 co2 co3 Ln cn0 cn1 cn2 cn3 fn0 fn1 fn2 fn3
   generalize hW6 : ((((W5.setCell ⟨gn, 0, none⟩ (.int .u64 (wd Q 0 : Nat))).setCell ⟨gn, 1, none⟩ (.int .u64 (wd Q 1 : Nat))).setCell ⟨gn, 2, none⟩ (.int .u64 (wd Q 2 : Nat))).setCell ⟨gn, 3, none⟩ (.int .u64 (wd Q 3 : Nat))) = W6 at *
   have Nn := at_of hW6 ((Fn.out).put4 _ _ _ _)
   have Nq := at_of hW6 ((Fq.out).far4 Dnq.symm _ _ _ _)
   have Nz := at_of hW6 ((Fz.out).far4 Dnz.symm _ _ _ _)
   have Np := at_of hW6 ((Fp.out).far4 Dnp.symm _ _ _ _)
   have No := at_of hW6 ((Fo.out).far4 Dno.symm _ _ _ _)
   have Nl := at_of hW6 ((Fl.out).far4 Dnl.symm _ _ _ _)
   have NB := gr_of hW6 (((((BW.out).setCell En _).setCell En _).setCell En _).setCell En _)
   clear hW6 BW Fn Fq Fz Fp Fo Fl
   have Fn := Lib.hid Nn
   have Fq := Lib.hid Nq
   have Fz := Lib.hid Nz
   have Fp := Lib.hid Np
   have Fo := Lib.hid No
   have Fl := Lib.hid Nl
   have BW := Lib.hid NB
   clear NB Nn Nq Nz Np No Nl
   have Lp := Fp.out.lt
   have cp0 := Fp.out.c0
   have cp1 := Fp.out.c1
   have cp2 := Fp.out.c2
   have cp3 := Fp.out.c3
   have Lq := Fq.out.lt
   have cq0 := Fq.out.c0
   have cq1 := Fq.out.c1
   have cq2 := Fq.out.c2
   have cq3 := Fq.out.c3
   go_wp2_with fail
   clear Lp cp0 cp1 cp2 cp3 Lq cq0 cq1 cq2 cq3
   refine (HCM.out _).mono ?_
   rintro e v7 ⟨rfl, z7⟩
   have Nn := Lib.hid (Fn.out.on z7)
   have Nq := Lib.hid (Fq.out.on z7)
   have Nz := Lib.hid (Fz.out.on z7)
   have Np := Lib.hid (Fp.out.on z7)
   have No := Lib.hid (Fo.out.on z7)
   have Nl := Lib.hid (Fl.out.on z7)
   have NB := Lib.hid (bel_tr BW.out z7)
   clear BW z7 Fn Fq Fz Fp Fo Fl
   have Fn := Nn
   have Fq := Nq
   have Fz := Nz
   have Fp := Np
   have Fo := No
   have Fl := Nl
   have BW := NB
   clear NB Nn Nq Nz Np No Nl
   have Lp := Fp.out.lt
   have cp0 := Fp.out.c0
   have cp1 := Fp.out.c1
   have cp2 := Fp.out.c2
   have cp3 := Fp.out.c3
   have fp0 : v7.frozen? ⟨gp, 0, none⟩ = false := Fp.out.frozen 0
   have fp1 : v7.frozen? ⟨gp, 1, none⟩ = false := Fp.out.frozen 1
   have fp2 : v7.frozen? ⟨gp, 2, none⟩ = false := Fp.out.frozen 2
   have fp3 : v7.frozen? ⟨gp, 3, none⟩ = false := Fp.out.frozen 3
   go_wp2_with fail
   clear Lp cp0 cp1 cp2 cp3 fp0 fp1 fp2 fp3
   generalize hW8 : ((((v7.setCell ⟨gp, 0, none⟩ (.int .u64 (wd Lo 0 : Nat))).setCell ⟨gp, 1, none⟩ (.int .u64 (wd Lo 1 : Nat))).setCell ⟨gp, 2, none⟩ (.int .u64 (wd Lo 2 : Nat))).setCell ⟨gp, 3, none⟩ (.int .u64 (wd Lo 3 : Nat))) = W8 at *
   have Nn := at_of hW8 ((Fn.out).far4 Dnp _ _ _ _)
   have Nq := at_of hW8 ((Fq.out).far4 Dqp _ _ _ _)
   have Nz := at_of hW8 ((Fz.out).far4 Dzp _ _ _ _)
   have Np := at_of hW8 ((Fp.out).put4 _ _ _ _)
   have No := at_of hW8 ((Fo.out).far4 Dpo.symm _ _ _ _)
   have Nl := at_of hW8 ((Fl.out).far4 Dpl.symm _ _ _ _)
   have NB := gr_of hW8 (((((BW.out).setCell Ep _).setCell Ep _).setCell Ep _).setCell Ep _)
   clear hW8 BW Fn Fq Fz Fp Fo Fl
   have Fn := Lib.hid Nn
   have Fq := Lib.hid Nq
   have Fz := Lib.hid Nz
   have Fp := Lib.hid Np
   have Fo := Lib.hid No
   have Fl := Lib.hid Nl
   have BW := Lib.hid NB
   clear NB Nn Nq Nz Np No Nl
   go_roundw
   case rel => exact ⟨e + 1, Q, Lo, Fn.out, Fq.out, Fz.out, Fp.out, BW.out, HS.out.2.symm, HL.out, HS.out.1⟩
   case measure =>
    rw [HMS.out, Fn.out.val HQ1.out, HE.out, HZ.out]
    have hx := HX0.out; have he := HE.out; have hz := HZ.out; have h2 := H2.out
    have : 2 * Q ≤ Q * q := by rw [Nat.mul_comm Q q]; exact Nat.mul_le_mul_right _ h2
    omega
  ·rw [decide_eq_false hz] at eqz
   have HZ := Lib.hid hz
   clear hz
   have Ll := Fl.out.lt
   have cl0 := Fl.out.c0
   have cl1 := Fl.out.c1
   have cl2 := Fl.out.c2
   have cl3 := Fl.out.c3
   have Lp := Fp.out.lt
   have cp0 := Fp.out.c0
   have cp1 := Fp.out.c1
   have cp2 := Fp.out.c2
   have cp3 := Fp.out.c3
   have Lz := Fz.out.lt
   have cz0 := Fz.out.c0
   have cz1 := Fz.out.c1
   have cz2 := Fz.out.c2
   have cz3 := Fz.out.c3
   have fz0 : W5.frozen? ⟨gz, 0, none⟩ = false := Fz.out.frozen 0
   have fz1 : W5.frozen? ⟨gz, 1, none⟩ = false := Fz.out.frozen 1
   have fz2 : W5.frozen? ⟨gz, 2, none⟩ = false := Fz.out.frozen 2
   have fz3 : W5.frozen? ⟨gz, 3, none⟩ = false := Fz.out.frozen 3
   go_wp2_with fail
   clear Ll cl0 cl1 cl2 cl3 Lp cp0 cp1 cp2 cp3 Lz cz0 cz1 cz2 cz3 fz0 fz1 fz2 fz3
   generalize hW6 : ((((W5.setCell ⟨gz, 0, none⟩ (.int .u64 (wd P 0 : Nat))).setCell ⟨gz, 1, none⟩ (.int .u64 (wd P 1 : Nat))).setCell ⟨gz, 2, none⟩ (.int .u64 (wd P 2 : Nat))).setCell ⟨gz, 3, none⟩ (.int .u64 (wd P 3 : Nat))) = W6 at *
   have Nn := at_of hW6 ((Fn.out).far4 Dnz _ _ _ _)
   have Nq := at_of hW6 ((Fq.out).far4 Dqz _ _ _ _)
   have Nz := at_of hW6 ((Fz.out).put4 _ _ _ _)
   have Np := at_of hW6 ((Fp.out).far4 Dzp.symm _ _ _ _)
   have No := at_of hW6 ((Fo.out).far4 Dzo.symm _ _ _ _)
   have Nl := at_of hW6 ((Fl.out).far4 Dzl.symm _ _ _ _)
   have NB := gr_of hW6 (((((BW.out).setCell Ez _).setCell Ez _).setCell Ez _).setCell Ez _)
   clear hW6 BW Fn Fq Fz Fp Fo Fl
   have Fn := Lib.hid Nn
   have Fq := Lib.hid Nq
   have Fz := Lib.hid Nz
   have Fp := Lib.hid Np
   have Fo := Lib.hid No
   have Fl := Lib.hid Nl
   have BW := Lib.hid NB
   clear NB Nn Nq Nz Np No Nl
   have Lz := Fz.out.lt
   have cz0 := Fz.out.c0
   have cz1 := Fz.out.c1
   have cz2 := Fz.out.c2
   have cz3 := Fz.out.c3
   have HV := pow_last H2.out H0.out HD.out (by rw [← HX.out]; exact HE.out) HR.out HZ.out
   exact bodyPost_ret (v := num P) (by simp [results, Try.results70, go_sem, *]) rfl ⟨by rw [HV, HP.out], BW.out⟩
end Go.Proofs.Ytnphoelbbgmehaa

/-
 primes.leastDivisor: the least divisor above 1 of a number below 2^32; it is the number just if that is prime.
-/
namespace Go.Proofs.Ytnphoelbbgmehaa
set_option maxRecDepth 100000
open Go.RowKit
set_option linter.unusedSimpArgs false
set_option linter.unusedVariables false

/-- what divides six in a row from 6 * k + 5 on, when two does not, nor three -/
theorem least_six (n low : Nat) (e2 : n % 2 ≠ 0) (e3 : n % 3 ≠ 0) (h6 : low % 6 = 5) (h : ∀ d, 2 ≤ d → d < low → n % d ≠ 0) (h0 : n % low ≠ 0) (h2 : n % (low + 2) ≠ 0) :
  ∀ d, 2 ≤ d → d < low + 6 → n % d ≠ 0 := by
 intro d hd hl hz
 have k2 : ∀ m, d = 2 * m → False := fun m hm => e2 (Nat.mod_eq_zero_of_dvd (Nat.dvd_trans ⟨m, hm⟩ (Nat.dvd_of_mod_eq_zero hz)))
 have k3 : ∀ m, d = 3 * m → False := fun m hm => e3 (Nat.mod_eq_zero_of_dvd (Nat.dvd_trans ⟨m, hm⟩ (Nat.dvd_of_mod_eq_zero hz)))
 rcases Nat.lt_or_ge d low with h1 | h1
 ·exact h d hd h1 hz
 ·have : d = low ∨ d = low + 1 ∨ d = low + 2 ∨ d = low + 3 ∨ d = low + 4 ∨ d = low + 5 := by omega
  rcases this with e | e | e | e | e | e
  ·exact h0 (e ▸ hz)
  ·exact k2 (d / 2) (by omega)
  ·exact h2 (e ▸ hz)
  ·exact k2 (d / 2) (by omega)
  ·exact k3 (d / 3) (by omega)
  ·exact k2 (d / 2) (by omega)

theorem idx2_0 (w : World) (a b : Int) : Sem.run Try.prog (Instr.index 67 (.agg #[.int .u64 a, .int .u64 b]) (.int .i64 0)) w = .ok (.int .u64 a) w := by
 simp [Instr.index, run_underlying Try.underlying67, asIntOf, go_sem]
theorem idx2_1 (w : World) (a b : Int) : Sem.run Try.prog (Instr.index 67 (.agg #[.int .u64 a, .int .u64 b]) (.int .i64 1)) w = .ok (.int .u64 b) w := by
 simp [Instr.index, run_underlying Try.underlying67, asIntOf, go_sem]
theorem int_mod {n d : Nat} : ((n : Int) % (d : Int) = 0) ↔ n % d = 0 := by omega

theorem not_least_0 (n d P : Nat) (h5 : 5 ≤ d) (h : 2 * d ≤ P) (hP : P ≤ n) (hz : (n : Int) % (d : Int) = 0) : d ≠ n ∧ ¬ Pr.Pri n := by
 have hz' := int_mod.mp hz
 have : d < n := by omega
 exact ⟨by omega, Pr.not_pri_of (by omega) this hz'⟩

theorem least_any (n : Nat) (h2 : 1 < n) (hn : n < 4294967296) (w : World) : Calls Try.prog 27 #[.int .u64 (n : Nat)] w fun e w' => ∃ d : Nat, e = .returned (.int .u64 (d : Nat)) ∧ (d = n ↔ Pr.Pri n) ∧ Below w.heap.size w w' := by
 go_enter Try.func27, Try.ntmps27
 by_cases e2 : (n : Int) % 2 = 0
 ·go_wp2
  go_step3
  go_wp2
  rw [Exit.noGoto_ret]
  go_ret
  refine ⟨2, rfl, ?_, Below.refl _ _⟩
  rcases Nat.lt_or_ge 2 n with h | h
  ·exact ⟨fun e => by omega, fun hp => absurd hp (Pr.not_pri_of (Nat.le_refl 2) h (by omega))⟩
  ·have : n = 2 := by omega
   subst this
   exact ⟨fun _ => Pr.pri_of_small (by omega) fun d h1 h2 => by
    have : 2 * 2 ≤ d * d := Nat.mul_le_mul h1 h1
    omega, fun _ => rfl⟩
 by_cases e3 : (n : Int) % 3 = 0
 ·go_wp2
  go_step3
  go_wp2
  rw [Exit.noGoto_ret]
  go_ret
  refine ⟨3, rfl, ?_, Below.refl _ _⟩
  rcases Nat.lt_or_ge 3 n with h | h
  ·exact ⟨fun e => by omega, fun hp => absurd hp (Pr.not_pri_of (by omega) h (by omega))⟩
  ·have : n = 3 := by omega
   subst this
   exact ⟨fun _ => Pr.pri_of_small (by omega) fun d h1 h2 => by
    have : 2 * 2 ≤ d * d := Nat.mul_le_mul h1 h1
    omega, fun _ => rfl⟩
 go_wp2
 go_step3
 go_wp2
 go_step3
 go_wp2
 have f2 : n % 2 ≠ 0 := by omega
 have f3 : n % 3 ≠ 0 := by omega
 go_loopg [3, 4] 65600 (fun g s3 s4 wr => ∃ low : Nat, s3 = .int .u64 (n : Nat) ∧ s4 = .int .u64 (low : Nat) ∧ 5 ≤ low ∧ low + g = 65605 ∧ Hid (low % 6 = 5 ∧ ∀ d, 2 ≤ d → d < low → n % d ≠ 0) ∧ Hid (Below w.heap.size w wr))
 case atStart => exact ⟨5, rfl, rfl, by omega, by omega, ⟨rfl, fun d h1 h2 h3 => by
  have : d = 2 ∨ d = 3 ∨ d = 4 := by omega
  rcases this with e | e | e <;> (subst e; omega)⟩, Below.refl _ _⟩
 case round =>
  obtain ⟨low, rfl, rfl, h5, hlg, HI, BW⟩ := hrel
  obtain ⟨G, rfl⟩ : ∃ G : Nat, G = gk := ⟨_, rfl⟩
  have hll : low * low ≤ 65605 * 65605 := Nat.mul_le_mul (by omega) (by omega)
  obtain ⟨P, hP⟩ : ∃ P, P = low * low := ⟨_, rfl⟩
  have hw : IntKind.wrap .u64 ((low : Int) * (low : Int)) = (P : Int) := by
   rw [← Int.natCast_mul, ← hP]
   rw [IntKind.wrap_u64]
   omega
  have hlp : low ≤ P ∧ 5 * low ≤ P := by rw [hP]; exact ⟨Nat.le_mul_of_pos_left _ (by omega), Nat.mul_le_mul_right _ h5⟩
  by_cases hle : (P : Int) ≤ (n : Int)
  ·have HP := Lib.hid hP
   have HG : Hid (6 ≤ G) := by
    show 6 ≤ G
    rcases Nat.lt_or_ge G 6 with h | h
    ·have : 65600 * 65600 ≤ low * low := Nat.mul_le_mul (by omega) (by omega)
     omega
    ·exact h
   clear hP hll
   go_wp2
   obtain ⟨wo, rfl⟩ : ∃ wo : World, wo = wr := ⟨_, rfl⟩
   go_loopg [3, 27] 2 (fun g s3 s27 wi => ∃ i : Nat, s3 = .int .u64 (n : Nat) ∧ s27 = .int .i64 (i : Nat) ∧ i + g = 2 ∧ Hid (∀ j, j < i → n % (low + 2 * j) ≠ 0) ∧ Hid (Below w.heap.size w wi))
   case atStart => exact ⟨0, rfl, rfl, rfl, fun j h => absurd h (Nat.not_lt_zero _), BW.out⟩
   case round =>
    obtain ⟨i, rfl, rfl, hig, HJ, BI⟩ := hrel
    have hc : i = 0 ∨ i = 1 ∨ i = 2 := by omega
    have HIG := Lib.hid hig
    clear hig
    rcases hc with rfl | rfl | rfl
    ·by_cases hz : (n : Int) % (low : Int) = 0
     ·have ix := idx2_0 wr (low : Int) ((low : Int) + 2)
      have HZ := Lib.hid (not_least_0 n low P h5 (by omega) (by omega) hz)
      go_wp2
      rw [Exit.noGoto_ret]
      go_ret
      exact ⟨low, rfl, ⟨fun h => absurd h HZ.out.1, fun h => absurd h HZ.out.2⟩, BI.out⟩
     ·have ix := idx2_0 wr (low : Int) ((low : Int) + 2)
      go_wp2
      go_roundg 1
      case measure => have := HIG.out; omega
      case rel => exact ⟨1, rfl, rfl, rfl, fun j hj => by
       have : j = 0 := by omega
       subst this
       exact fun h => hz (int_mod.mpr h), BI.out⟩
    ·by_cases hz : (n : Int) % ((low : Int) + 2) = 0
     ·have ix := idx2_1 wr (low : Int) ((low : Int) + 2)
      have HZ := Lib.hid (not_least_0 n (low + 2) P (by omega) (by omega) (by omega) hz)
      go_wp2
      rw [Exit.noGoto_ret]
      go_ret
      exact ⟨low + 2, by simp, ⟨fun h => absurd h HZ.out.1, fun h => absurd h HZ.out.2⟩, BI.out⟩
     ·have ix := idx2_1 wr (low : Int) ((low : Int) + 2)
      go_wp2
      go_roundg 0
      case measure => have := HIG.out; omega
      case rel => exact ⟨2, rfl, rfl, rfl, fun j hj => by
       have : j = 0 ∨ j = 1 := by omega
       rcases this with e | e
       ·subst e; exact HJ.out 0 (by omega)
       ·subst e
        exact fun h => hz (int_mod.mpr h), BI.out⟩
    ·go_wp2
     go_roundg (G - 6)
     case measure => have := HG.out; omega
     case rel =>
      have hG := HG.out
      refine ⟨low + 6, rfl, by simp, by omega, by omega, ⟨by have := HI.out.1; omega, ?_⟩, BI.out⟩
      exact least_six n low f2 f3 HI.out.1 HI.out.2 (by simpa using HJ.out 0 (by omega)) (by simpa using HJ.out 1 (by omega))
  ·have hpn : Pr.Pri n := Pr.pri_of_small (by omega) fun d hd hdd => HI.out.2 d hd (by
    apply Decidable.byContradiction; intro hc
    have : low * low ≤ d * d := Nat.mul_le_mul (by omega) (by omega)
    omega)
   clear hP hll
   have HPN := Lib.hid hpn
   clear hpn
   go_wp2
   go_ret
   exact ⟨n, rfl, ⟨fun _ => HPN.out, fun _ => rfl⟩, BW.out⟩
end Go.Proofs.Ytnphoelbbgmehaa

/-
 primes.Small, and the document's: whether a number is below 2^32, and prime.
-/
namespace Go.Proofs.Ytnphoelbbgmehaa
set_option maxRecDepth 100000
open Go.RowKit
set_option linter.unusedSimpArgs false
set_option linter.unusedVariables false

/-- below 2^32, and prime -/
noncomputable def smallB (n : Nat) : Bool := decide (n < 4294967296) && Pr.priB n
theorem smallB_of {n : Nat} (h : n < 4294967296) : smallB n = Pr.priB n := by simp [smallB, h]
theorem smallB_ge {n : Nat} (h : ¬ n < 4294967296) : smallB n = false := by simp [smallB, h]
theorem not_pri_lt {n : Nat} (h : n < 2) : Pr.priB n = false := Pr.priB_not.mpr fun hp => by have := hp.1; omega

theorem small_any (n : Nat) (hn : n < 18446744073709551616) (w : World) : Calls Try.prog 10 #[.int .u64 (n : Nat)] w fun e w' => e = .returned (.bool (smallB n)) ∧ Below w.heap.size w w' := by
 go_enter Try.func10, Try.ntmps10
 by_cases h1 : (1 : Int) < (n : Int)
 ·by_cases h2 : (n : Int) < 4294967296
  ·have C := least_any n (by omega) (by omega)
   have e := smallB_of (n := n) (by omega)
   go_wp2_with fail
   refine (C _).mono ?_
   rintro e w1 ⟨d, rfl, hd, z1⟩
   by_cases hp : d = n
   ·have hb := Pr.priB_iff.mpr (hd.mp hp)
    subst hp
    clear hd
    go_wp2
    go_ret
    exact ⟨by rw [e, hb]; rfl, z1⟩
   ·have hne : ((d : Int) == (n : Int)) = false := by rw [beq_eq_false_iff_ne]; omega
    have hb := Pr.priB_not.mpr fun h => hp (hd.mpr h)
    clear hd hp
    go_wp2
    go_ret
    exact ⟨by rw [e, hb]; rfl, z1⟩
  ·have e := smallB_ge (n := n) (by omega)
   go_wp2
   go_ret
   exact ⟨by first | rfl | (rw [e]; rfl), Below.refl _ _⟩
 ·have e : smallB n = false := by
   rw [smallB_of (by omega)]; exact not_pri_lt (by omega)
  go_wp2
  go_ret
  exact ⟨by first | rfl | (rw [e]; rfl), Below.refl _ _⟩

theorem rsmall_any (n : Nat) (hn : n < 18446744073709551616) (w : World) : Calls Try.prog 11 #[.int .u64 (n : Nat)] w fun e w' => e = .returned (.bool (smallB n)) ∧ Below w.heap.size w w' := by
 go_enter Try.func11, Try.ntmps11
 by_cases h1 : (n : Int) < 2
 ·have e : smallB n = false := by
   rw [smallB_of (by omega)]; exact not_pri_lt (by omega)
  go_wp2
  go_ret
  exact ⟨by first | rfl | (rw [e]; rfl), Below.refl _ _⟩
 ·by_cases h2 : ¬ (4294967296 : Int) ≤ (n : Int)
  ·have e := smallB_of (n := n) (by omega)
   have HE := Lib.hid e
   clear e hn
   go_wp2
   go_loopg [3] 65600 (fun g s3 wr => ∃ d : Nat, s3 = .int .u64 (d : Nat) ∧ 2 ≤ d ∧ d + g = 65602 ∧ Hid (∀ q, 2 ≤ q → q < d → n % q ≠ 0) ∧ Hid (Below w.heap.size w wr))
   case atStart => exact ⟨2, rfl, by omega, by omega, fun q h1 h2 => by omega, Below.refl _ _⟩
   case round =>
    obtain ⟨d, rfl, hd, hdg, HI, BW⟩ := hrel
    obtain ⟨P, hP⟩ : ∃ P, P = d * d := ⟨_, rfl⟩
    have hdd : d * d ≤ 65602 * 65602 := Nat.mul_le_mul (by omega) (by omega)
    have hw : IntKind.wrap .u64 ((d : Int) * (d : Int)) = (P : Int) := by
     rw [← Int.natCast_mul, ← hP]
     rw [IntKind.wrap_u64]
     omega
    have hlp : 2 * d ≤ P := by rw [hP]; exact Nat.mul_le_mul_right _ hd
    by_cases hle : (P : Int) ≤ (n : Int)
    ·have HDG := Lib.hid hdg
     have HG : Hid (1 ≤ gk) := by
      show 1 ≤ gk
      rcases Nat.lt_or_ge gk 1 with h | h
      ·have : 65602 * 65602 ≤ d * d := Nat.mul_le_mul (by omega) (by omega)
       omega
      ·exact h
     clear hP hdd
     by_cases hz : (n : Int) % (d : Int) = 0
     ·have HZ := Lib.hid (Pr.not_pri_of hd (by omega) (int_mod.mp hz))
      go_wp2
      go_ret
      exact ⟨by rw [HE.out, Pr.priB_not.mpr HZ.out]; rfl, BW.out⟩
     ·clear h1 h2
      have hlt : (d : Int) + 1 < 65700 := by omega
      have hwd : IntKind.wrap .u64 ((d : Int) + 1) = (d : Int) + 1 := by rw [IntKind.wrap_u64]; omega
      clear hdg hlt hlp
      go_wp2
      go_roundg (gk - 1)
      case measure => have := HG.out; omega
      case rel =>
       have hG := HG.out
       have hdg := HDG.out
       refine ⟨d + 1, by simp, by omega, by omega, ?_, BW.out⟩
       intro q hq hqd
       rcases Nat.lt_or_ge q d with h | h
       ·exact HI.out q hq h
       ·have : q = d := by omega
        subst this
        exact fun h => hz (int_mod.mpr h)
    ·have hpn : Pr.Pri n := Pr.pri_of_small (by omega) fun q hq hqq => HI.out q hq (by
      apply Decidable.byContradiction; intro hc
      have : d * d ≤ q * q := Nat.mul_le_mul (by omega) (by omega)
      omega)
     have HPN := Lib.hid hpn
     clear hpn hP hdd
     go_wp2
     go_ret
     exact ⟨by rw [HE.out, Pr.priB_iff.mpr HPN.out]; rfl, BW.out⟩
  ·have h3 : (4294967296 : Int) ≤ (n : Int) := by omega
   have e := smallB_ge (n := n) (by omega)
   clear h2
   go_wp2
   go_ret
   exact ⟨by first | rfl | (rw [e]; rfl), Below.refl _ _⟩
end Go.Proofs.Ytnphoelbbgmehaa
