/-
  What digits tell, to any base: a list, the lowest first. Blocks of memory that are just some cells. Nothing here speaks of the program.
-/
import Derived.OwnWalk
import Derived.Laws.OwnMore
import Derived.Laws.MakeOwn
import Derived.Laws.Rows
import Derived.Laws.CopyOwn
import Derived.Test.YtodlpmepoakdlaaRows
import Derived.WalkKit
import Derived.Below
import Derived.Deep.LoopGhost
import Derived.Lib.Hide
import Derived.Test.YtodlpmepoakdlaaVAdd
import Derived.Test.YtodlpmepoakdlaaVPri
import Derived.Test.YtodlpmepoakdlaaVRsn
namespace Go.Proofs.Ytodlpmepoakdlaa
set_option maxRecDepth 100000
open Go.RowKit
set_option linter.unusedSimpArgs false
set_option linter.unusedVariables false

/-- what digits tell -/
def lv (b : Nat) : List Nat → Nat
  | [] => 0
  | x :: l => x + b * lv b l
theorem lv_set (b : Nat) : ∀ (l : List Nat) (k v : Nat), k < l.length → lv b (l.set k v) + b ^ k * l.getD k 0 = lv b l + b ^ k * v
  | [], _, _, h => absurd h (Nat.not_lt_zero _)
  | x :: l, 0, v, _ => by simp [lv]; omega
  | x :: l, k + 1, v, h => by
    have ih := lv_set b l k v (by simpa using h)
    have e : b * (lv b (l.set k v) + b ^ k * l.getD k 0) = b * (lv b l + b ^ k * v) := by rw [ih]
    rw [Nat.mul_add, Nat.mul_add, ← Nat.mul_assoc, ← Nat.mul_assoc, Nat.mul_comm b (b ^ k), show b ^ k * b = b ^ (k + 1) from (Nat.pow_succ _ _).symm] at e
    simp only [List.set_cons_succ, lv, List.getD_cons_succ]
    omega
/-- one digit more of a row of a product -/
theorem row_step (b V x Y c c' l' i j : Nat) (L : List Nat) (hk : i + j < L.length) (inv : lv b L + b ^ (i + j) * c = V + b ^ i * (x * (Y % b ^ j)))
    (st : x * (Y / b ^ j % b) + L.getD (i + j) 0 + c = l' + b * c') : lv b (L.set (i + j) l') + b ^ (i + (j + 1)) * c' = V + b ^ i * (x * (Y % b ^ (j + 1))) := by
  have s := lv_set b L (i + j) l' hk
  have m := congrArg (b ^ (i + j) * ·) st
  simp only [Nat.mul_add] at m
  rw [Nat.mod_pow_succ, Nat.mul_add, Nat.mul_add, ← Nat.add_assoc i j 1, show b ^ (i + j + 1) = b ^ (i + j) * b from Nat.pow_succ _ _]
  have e1 : b ^ (i + j) * (x * (Y / b ^ j % b)) = b ^ i * (x * (b ^ j * (Y / b ^ j % b))) := by rw [Nat.pow_add]; ac_rfl
  have e2 : b ^ (i + j) * (b * c') = b ^ (i + j) * b * c' := by ac_rfl
  omega
/-- a row of a product is done -/
theorem row_done (b X Y n i c : Nat) (L : List Nat) (hY : Y < b ^ n) (hk : i + n < L.length) (h0 : L.getD (i + n) 0 = 0)
    (inv : lv b L + b ^ (i + n) * c = X % b ^ i * Y + b ^ i * (X / b ^ i % b * (Y % b ^ n))) : lv b (L.set (i + n) c) = X % b ^ (i + 1) * Y := by
  have s := lv_set b L (i + n) c hk
  rw [h0] at s
  rw [Nat.mod_pow_succ, Nat.add_mul, Nat.mul_assoc]
  rw [Nat.mod_eq_of_lt hY] at inv
  omega

/-- block g is just the cells cs, of type t, none frozen -/
def At (w : World) (g : Nat) (t : TypeId) (cs : Array Value) : Prop := w.heap[g]? = some (.cells cs t (0, 0))
section
variable {w w' : World} {g : Nat} {t : TypeId} {cs : Array Value}
theorem At.lt (h : At w g t cs) : g < w.heap.size := (Array.getElem?_eq_some_iff.1 h).1
theorem At.cell (h : At w g t cs) (i : Nat) : w.cell? ⟨g, i, none⟩ = cs[i]? := cell_of_row w g i cs t (0, 0) h
theorem At.frozen (h : At w g t cs) (i : Nat) : w.frozen? ⟨g, i, none⟩ = false := by
  unfold At at h
  simp [World.frozen?, h]
theorem At.new (w : World) (t : TypeId) (cs : Array Value) : At (w.alloc (.cells cs t)) w.heap.size t cs := heap_alloc_new w _
theorem At.at_ (w : World) (g : Nat) (t : TypeId) (cs : Array Value) (h : g = w.heap.size) : At (w.alloc (.cells cs t)) g t cs := by rw [h]; exact At.new w t cs
theorem At.alloc (h : At w g t cs) (o : Obj) : At (w.alloc o) g t cs := (Below.heap_alloc w o g h.lt).trans h
theorem At.drew (h : At w g t cs) : At w.drew g t cs := h
theorem At.drewN (h : At w g t cs) (k : Nat) : At (w.drewN k) g t cs := h
theorem At.set (h : At w g t cs) (i : Nat) (u : Value) : At (w.setCell ⟨g, i, none⟩ u) g t (cs.setIfInBounds i u) := by
  unfold At at h ⊢
  simp [World.setCell, Array.getElem?_modify, h]
theorem At.far (h : At w g t cs) {p : Addr} (hp : p.block ≠ g) (u : Value) : At (w.setCell p u) g t cs := by
  unfold At at h ⊢
  simp [World.setCell, Array.getElem?_modify, hp, h]
theorem At.row (h : At w g t cs) (ds : Array Value) : At (w.setRow g ds) g t ds := setRow_heap w g _ _ t _ h
theorem At.rowFar (h : At w g t cs) {g' : Nat} (hne : g ≠ g') (ds : Array Value) : At (w.setRow g' ds) g t cs := (setRow_other w g' g ds hne).trans h
theorem At.again (h : At w g t cs) (i : Nat) (v : Value) (hv : cs[i]? = some v) : w.setCell ⟨g, i, none⟩ v = w := by
  have hs : w.setCell ⟨g, i, none⟩ v = w.setRow g (cs.setIfInBounds i v) := by
    unfold At at h
    simp only [World.setCell, World.setRow]
    congr 1
    apply Array.ext
    · simp
    · intro k h1 h2
      simp only [Array.getElem_modify]
      split
      · rename_i hk
        subst hk
        have := (Array.getElem?_eq_some_iff.1 h).2
        simp [this]
      · rfl
  rw [hs]
  have e : cs.setIfInBounds i v = cs := by
    obtain ⟨hi, hv⟩ := Array.getElem?_eq_some_iff.1 hv
    subst hv
    apply Array.ext
    · simp
    · intro k h1 h2
      rw [Array.getElem_setIfInBounds h2]
      split
      · rename_i hk; subst hk; rfl
      · rfl
  rw [e]
  exact setRow_self w g cs t (0, 0) h
theorem At.on (h : At w g t cs) (hb : Below w.heap.size w w') : At w' g t cs := (hb.block g h.lt).trans h
end

theorem At.put4 {w : World} {g : Nat} {t : TypeId} {a b c d : Value} (h : At w g t #[a, b, c, d]) (a' b' c' d' : Value) :
    At ((((w.setCell ⟨g, 0, none⟩ a').setCell ⟨g, 1, none⟩ b').setCell ⟨g, 2, none⟩ c').setCell ⟨g, 3, none⟩ d') g t #[a', b', c', d'] := by
  simpa using (((h.set 0 a').set 1 b').set 2 c').set 3 d'
theorem At.far4 {w : World} {g g' : Nat} {t : TypeId} {cs : Array Value} (h : At w g t cs) (hne : g ≠ g') (a' b' c' d' : Value) :
    At ((((w.setCell ⟨g', 0, none⟩ a').setCell ⟨g', 1, none⟩ b').setCell ⟨g', 2, none⟩ c').setCell ⟨g', 3, none⟩ d') g t cs :=
  (((h.far (by exact fun e => hne e.symm) a').far (by exact fun e => hne e.symm) b').far (by exact fun e => hne e.symm) c').far (by exact fun e => hne e.symm) d'

/-- words as values -/
def ws (l : List Nat) : Array Value := (l.map fun x : Nat => (.int .u64 (x : Nat) : Value)).toArray
theorem ws_at (l : List Nat) (k : Nat) (h : k < l.length) : (ws l)[k]? = some (.int .u64 (l.getD k 0 : Nat)) := by simp [ws, h]
theorem ws_set (l : List Nat) (k v : Nat) : (ws l).setIfInBounds k (.int .u64 (v : Nat)) = ws (l.set k v) := by simp [ws, List.map_set]
/-- a long number's words -/
def wl (X : Nat) : List Nat := [wd X 0, wd X 1, wd X 2, wd X 3]
theorem wl_at (X k : Nat) (h : k < 4) : (wl X).getD k 0 = wd X k := by
  match k, h with
  | 0, _ | 1, _ | 2, _ | 3, _ => rfl
end Go.Proofs.Ytodlpmepoakdlaa

/-
  Short forms: a block, and what lies below, in a world that has a letter; the cells of a block of four.
-/
namespace Go.Proofs.Ytodlpmepoakdlaa
set_option maxRecDepth 100000
open Go.RowKit
set_option linter.unusedSimpArgs false
set_option linter.unusedVariables false

theorem at_of {w w' : World} (h : w = w') {g : Nat} {t : TypeId} {cs : Array Value} (p : At w g t cs) : At w' g t cs := h ▸ p
theorem gr_of {n : Nat} {u w w' : World} (h : w = w') (p : Below n u w) : Below n u w' := h ▸ p
theorem At.c0 {w : World} {g : Nat} {t : TypeId} {a b c d : Value} (h : At w g t #[a, b, c, d]) : w.cell? ⟨g, 0, none⟩ = some a := h.cell 0
theorem At.c1 {w : World} {g : Nat} {t : TypeId} {a b c d : Value} (h : At w g t #[a, b, c, d]) : w.cell? ⟨g, 1, none⟩ = some b := h.cell 1
theorem At.c2 {w : World} {g : Nat} {t : TypeId} {a b c d : Value} (h : At w g t #[a, b, c, d]) : w.cell? ⟨g, 2, none⟩ = some c := h.cell 2
theorem At.c3 {w : World} {g : Nat} {t : TypeId} {a b c d : Value} (h : At w g t #[a, b, c, d]) : w.cell? ⟨g, 3, none⟩ = some d := h.cell 3
end Go.Proofs.Ytodlpmepoakdlaa

/-
  primes.leastDivisor: the least divisor above 1 of a number below 2^32; it is the number just if that is prime.
-/
namespace Go.Proofs.Ytodlpmepoakdlaa
set_option maxRecDepth 100000
open Go.RowKit
set_option linter.unusedSimpArgs false
set_option linter.unusedVariables false

/-- what divides six in a row from 6 * k + 5 on, when two does not, nor three -/
theorem least_six (n low : Nat) (e2 : n % 2 ≠ 0) (e3 : n % 3 ≠ 0) (h6 : low % 6 = 5) (h : ∀ d, 2 ≤ d → d < low → n % d ≠ 0) (h0 : n % low ≠ 0) (h2 : n % (low + 2) ≠ 0) :
    ∀ d, 2 ≤ d → d < low + 6 → n % d ≠ 0 := by
  intro d hd hl hz
  have k2 : ∀ m, d = 2 * m → False := fun m hm => e2 (Nat.mod_eq_zero_of_dvd (Nat.dvd_trans ⟨m, hm⟩ (Nat.dvd_of_mod_eq_zero hz)))
  have k3 : ∀ m, d = 3 * m → False := fun m hm => e3 (Nat.mod_eq_zero_of_dvd (Nat.dvd_trans ⟨m, hm⟩ (Nat.dvd_of_mod_eq_zero hz)))
  rcases Nat.lt_or_ge d low with h1 | h1
  · exact h d hd h1 hz
  · have : d = low ∨ d = low + 1 ∨ d = low + 2 ∨ d = low + 3 ∨ d = low + 4 ∨ d = low + 5 := by omega
    rcases this with e | e | e | e | e | e
    · exact h0 (e ▸ hz)
    · exact k2 (d / 2) (by omega)
    · exact h2 (e ▸ hz)
    · exact k2 (d / 2) (by omega)
    · exact k3 (d / 3) (by omega)
    · exact k2 (d / 2) (by omega)

theorem idx2_0 (w : World) (a b : Int) : Sem.run Try.prog (Instr.index 80 (.agg #[.int .u64 a, .int .u64 b]) (.int .i64 0)) w = .ok (.int .u64 a) w := by
  simp [Instr.index, run_underlying Try.underlying80, asIntOf, go_sem]
theorem idx2_1 (w : World) (a b : Int) : Sem.run Try.prog (Instr.index 80 (.agg #[.int .u64 a, .int .u64 b]) (.int .i64 1)) w = .ok (.int .u64 b) w := by
  simp [Instr.index, run_underlying Try.underlying80, asIntOf, go_sem]
theorem int_mod {n d : Nat} : ((n : Int) % (d : Int) = 0) ↔ n % d = 0 := by omega

theorem not_least_0 (n d P : Nat) (h5 : 5 ≤ d) (h : 2 * d ≤ P) (hP : P ≤ n) (hz : (n : Int) % (d : Int) = 0) : d ≠ n ∧ ¬ Pr.Pri n := by
  have hz' := int_mod.mp hz
  have : d < n := by omega
  exact ⟨by omega, Pr.not_pri_of (by omega) this hz'⟩

theorem least_any (n : Nat) (h2 : 1 < n) (hn : n < 4294967296) (w : World) : Calls Try.prog 50 #[.int .u64 (n : Nat)] w fun e w' => ∃ d : Nat, e = .returned (.int .u64 (d : Nat)) ∧ (d = n ↔ Pr.Pri n) ∧ Below w.heap.size w w' := by
  go_enter Try.func50, Try.ntmps50
  by_cases e2 : (n : Int) % 2 = 0
  · go_wp2
    go_step3
    go_wp2
    rw [Exit.noGoto_ret]
    go_ret
    refine ⟨2, rfl, ?_, Below.refl _ _⟩
    rcases Nat.lt_or_ge 2 n with h | h
    · exact ⟨fun e => by omega, fun hp => absurd hp (Pr.not_pri_of (Nat.le_refl 2) h (by omega))⟩
    · have : n = 2 := by omega
      subst this
      exact ⟨fun _ => Pr.pri_of_small (by omega) fun d h1 h2 => by
        have : 2 * 2 ≤ d * d := Nat.mul_le_mul h1 h1
        omega, fun _ => rfl⟩
  by_cases e3 : (n : Int) % 3 = 0
  · go_wp2
    go_step3
    go_wp2
    rw [Exit.noGoto_ret]
    go_ret
    refine ⟨3, rfl, ?_, Below.refl _ _⟩
    rcases Nat.lt_or_ge 3 n with h | h
    · exact ⟨fun e => by omega, fun hp => absurd hp (Pr.not_pri_of (by omega) h (by omega))⟩
    · have : n = 3 := by omega
      subst this
      exact ⟨fun _ => Pr.pri_of_small (by omega) fun d h1 h2 => by
        have : 2 * 2 ≤ d * d := Nat.mul_le_mul h1 h1
        omega, fun _ => rfl⟩
  go_wp2
  go_step3
  go_wp2
  go_step3
  go_wp2
  have f2 : n % 2 ≠ 0 := by omega
  have f3 : n % 3 ≠ 0 := by omega
  go_loopg [3, 4] 65600 (fun g s3 s4 wr => ∃ low : Nat, s3 = .int .u64 (n : Nat) ∧ s4 = .int .u64 (low : Nat) ∧ 5 ≤ low ∧ low + g = 65605 ∧ Hid (low % 6 = 5 ∧ ∀ d, 2 ≤ d → d < low → n % d ≠ 0) ∧ Hid (Below w.heap.size w wr))
  case atStart => exact ⟨5, rfl, rfl, by omega, by omega, ⟨rfl, fun d h1 h2 h3 => by
    have : d = 2 ∨ d = 3 ∨ d = 4 := by omega
    rcases this with e | e | e <;> (subst e; omega)⟩, Below.refl _ _⟩
  case round =>
    obtain ⟨low, rfl, rfl, h5, hlg, HI, BW⟩ := hrel
    obtain ⟨G, rfl⟩ : ∃ G : Nat, G = gk := ⟨_, rfl⟩
    have hll : low * low ≤ 65605 * 65605 := Nat.mul_le_mul (by omega) (by omega)
    obtain ⟨P, hP⟩ : ∃ P, P = low * low := ⟨_, rfl⟩
    have hw : IntKind.wrap .u64 ((low : Int) * (low : Int)) = (P : Int) := by
      rw [← Int.natCast_mul, ← hP]
      rw [IntKind.wrap_u64]
      omega
    have hlp : low ≤ P ∧ 5 * low ≤ P := by rw [hP]; exact ⟨Nat.le_mul_of_pos_left _ (by omega), Nat.mul_le_mul_right _ h5⟩
    by_cases hle : (P : Int) ≤ (n : Int)
    · have HP := Lib.hid hP
      have HG : Hid (6 ≤ G) := by
        show 6 ≤ G
        rcases Nat.lt_or_ge G 6 with h | h
        · have : 65600 * 65600 ≤ low * low := Nat.mul_le_mul (by omega) (by omega)
          omega
        · exact h
      clear hP hll
      go_wp2
      obtain ⟨wo, rfl⟩ : ∃ wo : World, wo = wr := ⟨_, rfl⟩
      go_loopg [3, 27] 2 (fun g s3 s27 wi => ∃ i : Nat, s3 = .int .u64 (n : Nat) ∧ s27 = .int .i64 (i : Nat) ∧ i + g = 2 ∧ Hid (∀ j, j < i → n % (low + 2 * j) ≠ 0) ∧ Hid (Below w.heap.size w wi))
      case atStart => exact ⟨0, rfl, rfl, rfl, fun j h => absurd h (Nat.not_lt_zero _), BW.out⟩
      case round =>
        obtain ⟨i, rfl, rfl, hig, HJ, BI⟩ := hrel
        have hc : i = 0 ∨ i = 1 ∨ i = 2 := by omega
        have HIG := Lib.hid hig
        clear hig
        rcases hc with rfl | rfl | rfl
        · by_cases hz : (n : Int) % (low : Int) = 0
          · have ix := idx2_0 wr (low : Int) ((low : Int) + 2)
            have HZ := Lib.hid (not_least_0 n low P h5 (by omega) (by omega) hz)
            go_wp2
            rw [Exit.noGoto_ret]
            go_ret
            exact ⟨low, rfl, ⟨fun h => absurd h HZ.out.1, fun h => absurd h HZ.out.2⟩, BI.out⟩
          · have ix := idx2_0 wr (low : Int) ((low : Int) + 2)
            go_wp2
            go_roundg 1
            case measure => have := HIG.out; omega
            case rel => exact ⟨1, rfl, rfl, rfl, fun j hj => by
              have : j = 0 := by omega
              subst this
              exact fun h => hz (int_mod.mpr h), BI.out⟩
        · by_cases hz : (n : Int) % ((low : Int) + 2) = 0
          · have ix := idx2_1 wr (low : Int) ((low : Int) + 2)
            have HZ := Lib.hid (not_least_0 n (low + 2) P (by omega) (by omega) (by omega) hz)
            go_wp2
            rw [Exit.noGoto_ret]
            go_ret
            exact ⟨low + 2, by simp, ⟨fun h => absurd h HZ.out.1, fun h => absurd h HZ.out.2⟩, BI.out⟩
          · have ix := idx2_1 wr (low : Int) ((low : Int) + 2)
            go_wp2
            go_roundg 0
            case measure => have := HIG.out; omega
            case rel => exact ⟨2, rfl, rfl, rfl, fun j hj => by
              have : j = 0 ∨ j = 1 := by omega
              rcases this with e | e
              · subst e; exact HJ.out 0 (by omega)
              · subst e
                exact fun h => hz (int_mod.mpr h), BI.out⟩
        · go_wp2
          go_roundg (G - 6)
          case measure => have := HG.out; omega
          case rel =>
            have hG := HG.out
            refine ⟨low + 6, rfl, by simp, by omega, by omega, ⟨by have := HI.out.1; omega, ?_⟩, BI.out⟩
            exact least_six n low f2 f3 HI.out.1 HI.out.2 (by simpa using HJ.out 0 (by omega)) (by simpa using HJ.out 1 (by omega))
    · have hpn : Pr.Pri n := Pr.pri_of_small (by omega) fun d hd hdd => HI.out.2 d hd (by
        apply Decidable.byContradiction; intro hc
        have : low * low ≤ d * d := Nat.mul_le_mul (by omega) (by omega)
        omega)
      clear hP hll
      have HPN := Lib.hid hpn
      clear hpn
      go_wp2
      go_ret
      exact ⟨n, rfl, ⟨fun _ => HPN.out, fun _ => rfl⟩, BW.out⟩
end Go.Proofs.Ytodlpmepoakdlaa

/-
  primes.Small, and the document's: whether a number is below 2^32, and prime.
-/
namespace Go.Proofs.Ytodlpmepoakdlaa
set_option maxRecDepth 100000
open Go.RowKit
set_option linter.unusedSimpArgs false
set_option linter.unusedVariables false

/-- below 2^32, and prime -/
noncomputable def smallB (n : Nat) : Bool := decide (n < 4294967296) && Pr.priB n
theorem smallB_of {n : Nat} (h : n < 4294967296) : smallB n = Pr.priB n := by simp [smallB, h]
theorem smallB_ge {n : Nat} (h : ¬ n < 4294967296) : smallB n = false := by simp [smallB, h]
theorem smallB_pri {n : Nat} : smallB n = true ↔ n < 4294967296 ∧ Pr.Pri n := by simp [smallB, Pr.priB_iff]
theorem not_pri_lt {n : Nat} (h : n < 2) : Pr.priB n = false := Pr.priB_not.mpr fun hp => by have := hp.1; omega

theorem small_any (n : Nat) (hn : n < 18446744073709551616) (w : World) : Calls Try.prog 27 #[.int .u64 (n : Nat)] w fun e w' => e = .returned (.bool (smallB n)) ∧ Below w.heap.size w w' := by
  go_enter Try.func27, Try.ntmps27
  by_cases h1 : (1 : Int) < (n : Int)
  · by_cases h2 : (n : Int) < 4294967296
    · have C := least_any n (by omega) (by omega)
      have e := smallB_of (n := n) (by omega)
      go_wp2_with fail
      refine (C _).mono ?_
      rintro e w1 ⟨d, rfl, hd, z1⟩
      by_cases hp : d = n
      · have hb := Pr.priB_iff.mpr (hd.mp hp)
        subst hp
        clear hd
        go_wp2
        go_ret
        exact ⟨by rw [e, hb]; rfl, z1⟩
      · have hne : ((d : Int) == (n : Int)) = false := by rw [beq_eq_false_iff_ne]; omega
        have hb := Pr.priB_not.mpr fun h => hp (hd.mpr h)
        clear hd hp
        go_wp2
        go_ret
        exact ⟨by rw [e, hb]; rfl, z1⟩
    · have e := smallB_ge (n := n) (by omega)
      go_wp2
      go_ret
      exact ⟨by first | rfl | (rw [e]; rfl), Below.refl _ _⟩
  · have e : smallB n = false := by
      rw [smallB_of (by omega)]; exact not_pri_lt (by omega)
    go_wp2
    go_ret
    exact ⟨by first | rfl | (rw [e]; rfl), Below.refl _ _⟩

end Go.Proofs.Ytodlpmepoakdlaa
