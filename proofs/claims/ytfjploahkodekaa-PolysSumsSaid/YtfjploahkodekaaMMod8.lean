/-
  Function values among the operations of a region that draws its order; a call that writes one block that was there.
-/
import Derived.Laws.EntriesVeiled
import Derived.Test.YtfjploahkodekaaMBehN
import Derived.Test.YtfjploahkodekaaMCell
import Derived.Test.YtfjploahkodekaaMChain
import Derived.Test.YtfjploahkodekaaMMod1
import Derived.Test.YtfjploahkodekaaMModN
import Derived.Test.YtfjploahkodekaaMShort
namespace Go.Proofs.Ytfjploahkodekaa
set_option maxRecDepth 100000
open Go.RowKit
set_option linter.unusedSimpArgs false
set_option linter.unusedVariables false
attribute [local go_sem ↓] Go.wp_at_zero Go.wp_at_succ

section
variable {P : Program} {ops : Array Oper} {Q : Exit → Act → World → Prop} {md : Region.Mode} {S : World → Prop} {a : Act} {W : World} {cores : List Core}
theorem run_value {f : FuncId} {fn : Func} {c : Code} (hf : P.funcs[f]? = some fn) (hname : (fn.name == "runtime.NumGoroutine") = false) (hb : fn.body = some c) (x : Operand) (xs : Array Operand) (tys : Array TypeId) (dst : Option Tmp) (ty : TypeId) (pos : String) (after : Array Edge) (gd : Option (Nat × Bool))
    (cap : Array Value) (ρ : Operand → Value) (hx : ρ x = .func (.func f) #[] cap) (w : World) :
    (execOp ρ ⟨dst, .call ⟨.value x, xs, tys⟩, ty, pos, after, gd⟩).run P w = .ok (.enter f (xs.map ρ ++ cap)) w := by
  have h := run_enter hf hname hb (xs.map ρ ++ cap) w
  simp only [execOp, resolve, hx]
  simpa [Deferred.ofValue, invoke, go_sem] using h
theorem core_callV (c : Core) (f : FuncId) (fn : Func) (code : Code) (x : Operand) (cap : Array Value) (xs : List Operand) (us : List Value) (tys : Array TypeId) (ty : TypeId) (pos : String) (after : Array Edge) (u : Value) (args : Array Value)
    (ho : ops[c.i]? = some ⟨some c.d, .call ⟨.value x, xs.toArray, tys⟩, ty, pos, after, none⟩) (hf : P.funcs[f]? = some fn) (hn : (fn.name == "runtime.NumGoroutine") = false) (hb : fn.body = some code)
    (hk : c.kind = Kind.val u) (hfx : Known a cores c.pre x (.func (.func f) #[] cap)) (hx : Args a cores c.pre xs us) (hall : us.toArray ++ cap = args)
    (C : ∀ w, Below W.heap.size W w → Calls P f args w fun e w' => e = .returned u ∧ Below w.heap.size w w') : StepOK P ops Q a W cores c := by
  intro vs w hl hbw hp o ho' K hK
  rw [ho] at ho'
  obtain rfl := Option.some.inj ho'
  refine want_none rfl ?_
  have hargs : xs.toArray.map (over a (cores.map (·.d)) vs).eval = us.toArray := by
    rw [List.map_toArray]
    congr 1
    clear ho C ho' hall
    induction hx with
    | nil => rfl
    | cons h _ ih => rw [List.map_cons, h vs w hl hp, ih]
  have hrun := run_value hf hn hb x xs.toArray tys (some c.d) ty pos after none cap (over a (cores.map (·.d)) vs).eval (hfx vs w hl hp) w
  rw [hargs, hall] at hrun
  unfold Oper.wp
  rw [hrun, Oper.upon_enter]
  refine (C w hbw).mono fun e w' ⟨he, hb⟩ => ?_
  subst he
  exact hK.out u w' hb (by rw [hk]; exact rfl) (fun h => by rw [hk] at h; cases h)
/-- an operation that reads memory of which S tells -/
theorem core_held (c : Core) (op : Op) (ty : TypeId) (pos : String) (after : Array Edge) (u : Value) (x : Operand) (xv : Value)
    (ho : ops[c.i]? = some ⟨some c.d, op, ty, pos, after, none⟩) (hk : c.kind = Kind.val u) (hx : Known a cores c.pre x xv)
    (h : ∀ (ρ : Operand → Value) (w : World), ρ x = xv → S w → (execOp ρ ⟨some c.d, op, ty, pos, after, none⟩).run P w = .ok (.value u) w) : PureOK P ops S a W cores c := by
  intro _
  refine ⟨by rw [hk]; rfl, fun vs w hl _ hp o ho' => ?_⟩
  rw [ho] at ho'
  obtain rfl := Option.some.inj ho'
  exact ⟨u, by rw [hk]; exact rfl, Or.inl ⟨rfl, fun w' hS => h _ w' (hx vs w hl hp) hS⟩⟩
end

/-- all that was there stays, but block g; the world may have grown -/
structure Kept (g : Nat) (w w' : World) : Prop where
  os : w'.os = w.os
  tape : w'.tape = w.tape
  output : w'.output = w.output
  size : w.heap.size ≤ w'.heap.size
  block : ∀ k, k < w.heap.size → k ≠ g → w'.heap[k]? = w.heap[k]?
theorem Kept.ofBelow {g : Nat} {w w' : World} (h : Below w.heap.size w w') : Kept g w w' := ⟨h.os, h.tape, h.output, h.size, fun k hk _ => h.block k hk⟩
theorem Kept.trans {g : Nat} {a b c : World} (h : Kept g a b) (k : Kept g b c) : Kept g a c :=
  ⟨k.os.trans h.os, k.tape.trans h.tape, k.output.trans h.output, Nat.le_trans h.size k.size, fun i hi hg => (k.block i (Nat.lt_of_lt_of_le hi h.size) hg).trans (h.block i hi hg)⟩
theorem Kept.put4 (w : World) (g : Nat) (a b c d : Value) : Kept g w (put4 w g a b c d) := by
  have one : ∀ (w : World) (i : Nat) (v : Value), Kept g w (w.setCell ⟨g, i, none⟩ v) := fun w i v =>
    ⟨rfl, rfl, rfl, by simp [World.setCell], fun k hk hg => by simp [World.setCell, Array.getElem?_modify, Ne.symm hg]⟩
  unfold Go.Proofs.Ytfjploahkodekaa.put4
  exact (((one w 0 a).trans (one _ 1 b)).trans (one _ 2 c)).trans (one _ 3 d)
theorem At.kept {w w' : World} {g b : Nat} {t : TypeId} {cs : Array Value} (h : At w b t cs) (k : Kept g w w') (hne : b ≠ g) : At w' b t cs := (k.block b h.lt hne).trans h
theorem Below.kept {n g : Nat} {W w w' : World} (h : Below n W w) (hn : n ≤ W.heap.size) (k : Kept g w w') (hg : n ≤ g) : Below n W w' :=
  ⟨k.os.trans h.os, k.tape.trans h.tape, k.output.trans h.output, Nat.le_trans h.size k.size, fun i hi => (k.block i (Nat.lt_of_lt_of_le hi (Nat.le_trans hn h.size)) (by omega)).trans (h.block i hi)⟩
theorem At.put3 {w : World} {g : Nat} {t : TypeId} {a b c : Value} (h : At w g t #[a, b, c]) (a' b' c' : Value) : At (((w.setCell ⟨g, 0, none⟩ a').setCell ⟨g, 1, none⟩ b').setCell ⟨g, 2, none⟩ c') g t #[a', b', c'] := by
  have := ((h.set 0 a').set 1 b').set 2 c'
  simpa using this
theorem At.far3 {w : World} {g p : Nat} {t : TypeId} {cs : Array Value} (h : At w g t cs) (hne : g ≠ p) (a' b' c' : Value) : At (((w.setCell ⟨p, 0, none⟩ a').setCell ⟨p, 1, none⟩ b').setCell ⟨p, 2, none⟩ c') g t cs :=
  ((h.far (p := ⟨p, 0, none⟩) hne.symm a').far (p := ⟨p, 1, none⟩) hne.symm b').far (p := ⟨p, 2, none⟩) hne.symm c'
theorem At.put8 {w : World} {g : Nat} {t : TypeId} {a b c d e f i j : Value} (h : At w g t #[a, b, c, d, e, f, i, j]) (a' b' c' d' e' f' i' j' : Value) :
    At ((((((((w.setCell ⟨g, 0, none⟩ a').setCell ⟨g, 1, none⟩ b').setCell ⟨g, 2, none⟩ c').setCell ⟨g, 3, none⟩ d').setCell ⟨g, 4, none⟩ e').setCell ⟨g, 5, none⟩ f').setCell ⟨g, 6, none⟩ i').setCell ⟨g, 7, none⟩ j') g t #[a', b', c', d', e', f', i', j'] := by
  have := (((((((h.set 0 a').set 1 b').set 2 c').set 3 d').set 4 e').set 5 f').set 6 i').set 7 j'
  simpa using this
theorem At.far8 {w : World} {g p : Nat} {t : TypeId} {cs : Array Value} (h : At w g t cs) (hne : g ≠ p) (a' b' c' d' e' f' i' j' : Value) :
    At ((((((((w.setCell ⟨p, 0, none⟩ a').setCell ⟨p, 1, none⟩ b').setCell ⟨p, 2, none⟩ c').setCell ⟨p, 3, none⟩ d').setCell ⟨p, 4, none⟩ e').setCell ⟨p, 5, none⟩ f').setCell ⟨p, 6, none⟩ i').setCell ⟨p, 7, none⟩ j') g t cs :=
  (((((((h.far (p := ⟨p, 0, none⟩) hne.symm a').far (p := ⟨p, 1, none⟩) hne.symm b').far (p := ⟨p, 2, none⟩) hne.symm c').far (p := ⟨p, 3, none⟩) hne.symm d').far (p := ⟨p, 4, none⟩) hne.symm e').far (p := ⟨p, 5, none⟩) hne.symm f').far (p := ⟨p, 6, none⟩) hne.symm i').far (p := ⟨p, 7, none⟩) hne.symm j'
end Go.Proofs.Ytfjploahkodekaa

/-
  An odd number's inverse by 2^256: there is one, and just one. Nothing here speaks of the program.
-/
namespace Go.Proofs.Ytfjploahkodekaa
set_option maxRecDepth 100000
set_option linter.unusedSimpArgs false
set_option linter.unusedVariables false

theorem newt_more (M r r' : Nat) (hr : 0 < r') (h1 : r' ≤ 2 * r) (h2 : r' ≤ 256) (h : ∃ X, X < 2 ^ 256 ∧ M * X % 2 ^ r = 1) : ∃ X, X < 2 ^ 256 ∧ M * X % 2 ^ r' = 1 := by
  obtain ⟨X, hX, h⟩ := h
  obtain ⟨S, c, e⟩ : ∃ S c, 2 + 2 ^ 256 * c = S + M * X % 2 ^ 256 := by
    have : M * X % 2 ^ 256 < 2 ^ 256 := Nat.mod_lt _ (by decide)
    exact ⟨2 + 2 ^ 256 - M * X % 2 ^ 256, 1, by omega⟩
  exact ⟨X * S % 2 ^ 256, Nat.mod_lt _ (by decide), newt_nat M X (M * X % 2 ^ 256) S (X * S % 2 ^ 256) (M * X / 2 ^ 256) c (X * S / 2 ^ 256) r r' hr h1 h2 h (by omega) e (by omega)⟩
theorem inv_exists (M : Nat) (hM : M < 2 ^ 256) (h : M % 2 = 1) : ∃ X, X < 2 ^ 256 ∧ M * X % 2 ^ 256 = 1 :=
  newt_more M 192 256 (by decide) (by decide) (by decide) <| newt_more M 96 192 (by decide) (by decide) (by decide) <| newt_more M 48 96 (by decide) (by decide) (by decide) <|
  newt_more M 24 48 (by decide) (by decide) (by decide) <| newt_more M 12 24 (by decide) (by decide) (by decide) <| newt_more M 6 12 (by decide) (by decide) (by decide) <| newt_more M 3 6 (by decide) (by decide) (by decide)
    ⟨M, hM, newt_first M h⟩
theorem inv_one (M X T R : Nat) (hX : X < R) (hT : T < R) (h : M * X % R = 1) (k : M * T % R = 1) : X = T := by
  have a : M * X * T % R = T := by rw [Nat.mul_mod, h, Nat.one_mul, Nat.mod_mod, Nat.mod_eq_of_lt hT]
  have b : M * T * X % R = X := by rw [Nat.mul_mod, k, Nat.one_mul, Nat.mod_mod, Nat.mod_eq_of_lt hX]
  rw [show M * X * T = M * T * X by rw [Nat.mul_assoc, Nat.mul_comm X, ← Nat.mul_assoc]] at a
  exact b.symm.trans a
/-- one round -/
theorem newt_round (M X p S X2 l c h r : Nat) (h3 : 3 ≤ r) (h0 : M * X % 2 ^ (min r 256) = 1) (hr : r < 256) (e1 : M * X = p + 2 ^ 256 * l) (e2 : 2 + 2 ^ 256 * c = S + p) (e3 : X * S = X2 + 2 ^ 256 * h) : M * X2 % 2 ^ (min (r * 2) 256) = 1 :=
  newt_nat M X p S X2 l c h (min r 256) (min (r * 2) 256) (by omega) (by omega) (by omega) h0 e1 e2 e3
end Go.Proofs.Ytfjploahkodekaa

/-
  mods.inverseOfOdd: Newton's way.
-/
namespace Go.Proofs.Ytfjploahkodekaa
set_option maxRecDepth 100000
open Go.RowKit
set_option linter.unusedSimpArgs false
set_option linter.unusedVariables false
attribute [local go_sem ↓] Go.wp_at_zero Go.wp_at_succ

end Go.Proofs.Ytfjploahkodekaa

/-
  mods: the function values of both ways.
-/
namespace Go.Proofs.Ytfjploahkodekaa
set_option maxRecDepth 100000
open Go.RowKit
set_option linter.unusedSimpArgs false
set_option linter.unusedVariables false
attribute [local go_sem ↓] Go.wp_at_zero Go.wp_at_succ

end Go.Proofs.Ytfjploahkodekaa

/-
  mods: both ways.
-/
namespace Go.Proofs.Ytfjploahkodekaa
set_option maxRecDepth 100000
open Go.RowKit
set_option linter.unusedSimpArgs false
set_option linter.unusedVariables false
attribute [local go_sem ↓] Go.wp_at_zero Go.wp_at_succ

end Go.Proofs.Ytfjploahkodekaa

/-
  mods: a power is gathered.
-/
namespace Go.Proofs.Ytfjploahkodekaa
set_option maxRecDepth 100000
open Go.RowKit
set_option linter.unusedSimpArgs false
set_option linter.unusedVariables false
attribute [local go_sem ↓] Go.wp_at_zero Go.wp_at_succ

end Go.Proofs.Ytfjploahkodekaa

/-
  mods.raise: a power, by either way.
-/
namespace Go.Proofs.Ytfjploahkodekaa
set_option maxRecDepth 100000
open Go.RowKit
set_option linter.unusedSimpArgs false
set_option linter.unusedVariables false
attribute [local go_sem ↓] Go.wp_at_zero Go.wp_at_succ

theorem pw_square (A M k : Nat) : (A ^ k % M) * (A ^ k % M) % M = A ^ (2 * k) % M := by
  rw [← Nat.mul_mod, ← Nat.pow_add]; congr 2; omega
theorem pw_more (A M k : Nat) (hA : A < M) : (A ^ k % M) * A % M = A ^ (k + 1) % M := by
  rw [Nat.pow_succ, Nat.mul_mod (A ^ k) A, Nat.mod_eq_of_lt hA]
theorem pw_bit (A M N j : Nat) (h : N / 2 ^ j % 2 = 0) : (A ^ (N / 2 ^ (j + 1)) % M) * (A ^ (N / 2 ^ (j + 1)) % M) % M = A ^ (N / 2 ^ j) % M := by
  rw [pw_square, ← show N / 2 ^ j = 2 * (N / 2 ^ (j + 1)) from by rw [wide_half N j, h, Nat.add_zero]]
theorem pw_bit1 (A M N j : Nat) (hA : A < M) (h : N / 2 ^ j % 2 = 1) : (A ^ (N / 2 ^ (j + 1)) % M) * (A ^ (N / 2 ^ (j + 1)) % M) % M * A % M = A ^ (N / 2 ^ j) % M := by
  rw [pw_square, pw_more _ _ _ hA, ← show N / 2 ^ j = 2 * (N / 2 ^ (j + 1)) + 1 from by rw [wide_half N j, h]]

end Go.Proofs.Ytfjploahkodekaa

/-
  mods.raise: any power; mods.Exp.
-/
namespace Go.Proofs.Ytfjploahkodekaa
set_option maxRecDepth 100000
open Go.RowKit
set_option linter.unusedSimpArgs false
set_option linter.unusedVariables false
attribute [local go_sem ↓] Go.wp_at_zero Go.wp_at_succ

/-- what stands for x, of an odd M -/
def stO (M x : Nat) : Nat := x * 2 ^ 256 % M
end Go.Proofs.Ytfjploahkodekaa

/-
  What two numbers have in common is made of them; one round of the search. Nothing here speaks of the program.
-/
namespace Go.Proofs.Ytfjploahkodekaa
set_option maxRecDepth 100000
set_option linter.unusedSimpArgs false
set_option linter.unusedVariables false

theorem bez (a b : Nat) : ∃ x y : Int, (a : Int) * x + (b : Int) * y = (Nat.gcd a b : Nat) := by
  induction a, b using Nat.gcd.induction with
  | H0 n => exact ⟨0, 1, by simp⟩
  | H1 m n hm ih =>
    obtain ⟨x, y, h⟩ := ih
    refine ⟨y - (n / m : Nat) * x, x, ?_⟩
    rw [Nat.gcd_rec m n, ← h]
    have e := congrArg (Nat.cast (R := Int)) (Nat.div_add_mod n m)
    simp only [Int.natCast_add, Int.natCast_mul] at e
    generalize ((n / m : Nat) : Int) = q at *
    generalize ((n % m : Nat) : Int) = r at *
    obtain rfl : r = n - m * q := by omega
    grind
theorem inv_there (A M : Nat) (h1 : 1 < M) (h : Nat.gcd A M = 1) : ∃ V, V < M ∧ A * V % M = 1 := by
  obtain ⟨x, y, e⟩ := bez A M
  rw [h] at e
  have hM : (M : Int) ≠ 0 := by omega
  obtain ⟨V, hV⟩ : ∃ V : Nat, (V : Int) = x % M := ⟨(x % M).toNat, by rw [Int.toNat_of_nonneg (Int.emod_nonneg _ hM)]⟩
  refine ⟨V, ?_, ?_⟩
  · have := Int.emod_lt_of_pos x (show (0 : Int) < M by omega); omega
  · refine dvd_mod h1 ?_
    have e2 := Int.mul_ediv_add_emod x M
    generalize x / (M : Int) = q at e2
    refine ⟨-(A * q) - y, ?_⟩
    rw [Int.natCast_mul, hV]
    obtain hx : x % (M : Int) = x - M * q := by omega
    rw [hx]
    have e3 : (A : Int) * x = 1 - M * y := by omega
    have : (A : Int) * (x - M * q) - 1 = (A : Int) * x - A * (M * q) - 1 := by rw [Int.mul_sub]
    rw [this, e3]; clear hx hV e e2 e3 this; grind
theorem inv_gcd (A M V : Nat) (h1 : 1 < M) (h : A * V % M = 1) : Nat.gcd A M = 1 := by
  have a : Nat.gcd A M ∣ A * V := Nat.dvd_trans (Nat.gcd_dvd_left A M) (Nat.dvd_mul_right A V)
  have b : Nat.gcd A M ∣ M * (A * V / M) := Nat.dvd_trans (Nat.gcd_dvd_right A M) (Nat.dvd_mul_right M _)
  have e := Nat.div_add_mod (A * V) M
  rw [h] at e
  rw [← e] at a
  exact Nat.dvd_one.1 ((Nat.dvd_add_right b).1 a)
/-- one round of Euclid's search -/
theorem eu_round (A M L U R V Q r P D c : Int) (h1 : M ∣ A * U - L) (h2 : M ∣ A * V - R) (e : L = Q * R + r) (hp : M ∣ Q * V - P) (hd : U + M * c = D + P) : M ∣ A * D - r := by
  obtain ⟨u, hu⟩ := h1
  obtain ⟨v, hv⟩ := h2
  obtain ⟨p, hp⟩ := hp
  refine ⟨u - Q * v + A * p + A * c, ?_⟩
  obtain rfl : D = U + M * c - P := by omega
  obtain rfl : P = Q * V - M * p := by omega
  obtain rfl : r = L - Q * R := by omega
  obtain rfl : L = A * U - M * u := by omega
  obtain rfl : R = A * V - M * v := by omega
  clear hu hv hp e hd
  grind
end Go.Proofs.Ytfjploahkodekaa
