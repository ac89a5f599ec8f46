/-
  nums.putWords: b, and behind it the lowest so many bytes of each word.
-/
import Derived.Test.YtkmjfaaelkmnkaaDoorProg
import Derived.Test.YtkmjfaaelkmnkaaDoorWords
import Derived.Laws.BitsAllLaws
namespace Go.Proofs.YtkmjfaaelkmnkaaDoor
set_option linter.unusedSimpArgs false
set_option linter.unusedVariables false
open Go.RowKit

theorem Tryd.info5 : (Tryd.prog.info? 5).map (fun i => (i.zero, i.size, i.bytes)) = some (some (.int .u8 0), 1, 1) := by kernel_rfl

/-- the cells of a slice that reads as a list, as append's laws ask for them -/
theorem Rd.src {w : World} {A : Option Addr} {n : Nat} {xs : List Value} (h : Rd w A n xs) : ∀ ad, A = some ad → ∀ j u, xs[j]? = some u → w.cell? (ad.add j) = some u := by
  intro ad e j u hu
  have hl : j < xs.length := (List.getElem?_eq_some_iff.1 hu).1
  obtain ⟨b, off, e', _, hc⟩ := h.2 (by have := h.1; omega)
  rw [e'] at e
  obtain rfl := Option.some.inj e
  rw [Addr.add_lit]
  exact hc j u hu

theorem flat_step (xs : List Nat) (k j : Nat) (h : j < xs.length) : (xs.take j).flatMap (be k) ++ (be k (xs.getD j 0)).take k = (xs.take (j + 1)).flatMap (be k) := by
  have e : (be k (xs.getD j 0)).take k = be k (xs.getD j 0) := List.take_of_length_le (by rw [be_len]; exact Nat.le_refl _)
  rw [e, List.take_succ_eq_append_getElem h]
  rw [List.flatMap_append]
  simp [List.getElem?_eq_getElem h]

theorem one_new (w : World) (t : TypeId) (v : Value) : ∀ j u, [v][j]? = some u → (w.alloc (.cells #[v] t)).cell? ((⟨w.heap.size, 0, none⟩ : Addr).add j) = some u := by
  intro j u hj
  match j, hj with
  | 0, hj => simp at hj; subst hj; simp [Addr.add]
theorem one_cell (k : IntKind) (x : Int) : ∀ u ∈ [Value.int k x], u.oneCell' = true := by intro u hu; simp at hu; subst hu; rfl

theorem byte_step (l ys : List Nat) (k x t : Nat) (h : t < k) :
    bs (l ++ (ys ++ (be k x).take t)) ++ [Value.int .u8 ((x : Int) / 2 ^ (8 * (k - 1 - t)) % 256)] = bs (l ++ (ys ++ (be k x).take (t + 1))) := by
  rw [be_take k x t h, ← List.append_assoc, ← List.append_assoc, ← List.append_assoc, bs_append (l ++ ys ++ _)]
  simp [bs]

set_option maxHeartbeats 1000000 in
theorem putWords_ok (A W : Option Addr) (n c m d k q : Nat) (l xs : List Nat) (w : World) (h8 : k ≤ 8) (hm4 : m ≤ 4) (hn : n ≤ 4194304) (hc : n ≤ c) (hnil : A = none → n = 0 ∧ c = 0)
    (hr : Rd w A n (bs l)) (hw : Rd w W m (ws xs)) (hx : ∀ y ∈ xs, y < 18446744073709551616) (hq : k * m = q) :
    Calls Tryd.prog 62 #[.slice A n c, .int .i64 k, .slice W m d] w fun e w' => e = .returned (.slice (some ⟨w.heap.size, 0, none⟩) (n + q) (n + q)) ∧
      w'.ownsRow w.heap.size 5 1 (.slice (some ⟨w.heap.size, 0, none⟩) (n + q) (n + q)) (n + q) (bs (l ++ xs.flatMap (be k))) ∧ Below w.heap.size w w' := by
  obtain ⟨i0, hi, hz0, hz1, hz2⟩ := info_parts Tryd.info5
  have hq32 : q ≤ 32 := by rw [← hq]; exact Nat.mul_le_mul h8 hm4
  have hqw : wrap64 ((k : Int) * (m : Int)) = (q : Int) := by rw [← hq]; rw [IntWalk.wrap64_in _ (by have := Nat.mul_le_mul h8 hm4; constructor <;> omega)]; simp
  have HQ := Lib.hid hq
  clear hq
  go_enter Tryd.func62, Tryd.ntmps62
  go_wp2_with (at_make; refine wpList_make_own _ rfl _ _ 22 rfl w.heap.size 5 i0 (.int .u8 0) 1 Tryd.underlying22 hi hz0 hz1 _ _ _ (n + q) rfl rfl (by omega) ?b2 ?b3 (Nat.le_refl _) ?_)
  case b2 => rw [hz2]; omega
  case b3 => unfold maxLen; omega
  intro w0 hown0 hgrow0
  clear hqw
  have hb0 : Below w.heap.size w w0 := (Below.refl _ _).grown hgrow0 (Nat.le_refl _) (by simp)
  have hr0 := hr.below hb0
  go_wp2_with (at_builtin; refine wpList_append_fits_any _ rfl (.tmp 18) (.tmp 19) 22 rfl w.heap.size 5 i0 1 Tryd.underlying22 hi hz1 w.heap.size 0 (n + q) [] rfl hown0 A n c (bs l) rfl (by have := hr.1; omega) hnil hr0.src (bs_one l) (by omega) ?_; intro w1 hown1 hgrow1; simp only [Nat.zero_add, List.nil_append] at hown1)
  have hb1 : Below w.heap.size w w1 := hb0.grown hgrow1 hb0.size (by simp)
  clear hgrow0 hgrow1 hown0 hr0 hb0 hnil hr
  go_loopw [7, 23] (fun v i wr => ∃ j p : Nat, j ≤ m ∧ Hid (p = k * j) ∧ i = .int .i64 j ∧ v = .slice (some ⟨w.heap.size, 0, none⟩) (n + p) (n + q) ∧
      wr.ownsRow w.heap.size 5 1 (.slice (some ⟨w.heap.size, 0, none⟩) (n + p) (n + q)) (n + p) (bs (l ++ (xs.take j).flatMap (be k))) ∧ Below w.heap.size w wr) (fun _ i _ => m - (intOf i).toNat)
  case atStart => exact ⟨0, 0, Nat.zero_le _, Lib.hid (by simp), rfl, rfl, by simpa using hown1, hb1⟩
  case round =>
    obtain ⟨j, p, hj, hp, rfl, rfl, hown, hbr⟩ := hrel
    clear hown1 hb1
    by_cases hlt : j < m
    · have hpk : p + k ≤ q := by
        have e1 := hp.out
        have e2 := HQ.out
        have e3 : k * (j + 1) ≤ k * m := Nat.mul_le_mul_left k hlt
        rw [Nat.mul_add] at e3
        omega
      obtain ⟨b, off, rfl, hbs, hcell⟩ := hw.spot hlt
      have hxl : j < xs.length := by have := hw.1; simp [ws] at this; omega
      have hxj : wr.cell? ⟨b, off + j, none⟩ = some (.int .u64 (xs.getD j 0 : Nat)) := (hbr.cell (by exact hbs)).trans (hcell j _ (ws_at xs j hxl))
      have hfl := Lib.hid (flat_step xs k j hxl)
      obtain ⟨x, hxe⟩ : ∃ x, x = xs.getD j 0 := ⟨_, rfl⟩
      have hx64 : x < 18446744073709551616 := by rw [hxe]; exact hx _ (by simp [hxl])
      rw [← hxe] at hxj hfl
      have HX := Lib.hid hxe
      clear hxe hcell hw hx
      go_wp2
      obtain ⟨wo, rfl⟩ : ∃ wo : World, wo = wr := ⟨_, rfl⟩
      go_loopw [7, 28] (fun v i wi => ∃ t : Nat, t ≤ k ∧ i = .int .i64 t ∧ v = .slice (some ⟨w.heap.size, 0, none⟩) (n + p + t) (n + q) ∧
          wi.ownsRow w.heap.size 5 1 (.slice (some ⟨w.heap.size, 0, none⟩) (n + p + t) (n + q)) (n + p + t) (bs (l ++ ((xs.take j).flatMap (be k) ++ (be k x).take t))) ∧ Below w.heap.size w wi) (fun _ i _ => k - (intOf i).toNat)
      case atStart => exact ⟨0, Nat.zero_le _, rfl, rfl, by simpa using hown, hbr⟩
      case round =>
        obtain ⟨t, ht, rfl, rfl, hown1, hbr1⟩ := hrel
        by_cases htl : t < k
        · have hbt := Lib.hid (byte_step l ((xs.take j).flatMap (be k)) k x t htl)
          go_wp2_with (at_builtin; refine wpList_append_fits _ rfl (.tmp 31) (.tmp 40) 22 rfl w.heap.size 5 i0 1 Tryd.underlying22 hi hz1 w.heap.size (n + p + t) (n + q) _ rfl (hown1.alloc _) ⟨wr.heap.size, 0, none⟩ 1 1 [.int .u8 ((x : Int) / 2 ^ (8 * (k - 1 - t)) % 256)] rfl rfl (one_new _ _ _) (one_cell _ _) (by omega) ?_; intro w2 hown2 hgrow2)
          rw [hbt.out] at hown2
          have hbr2 : Below w.heap.size w w2 := (hbr1.alloc hbr1.size _).grown hgrow2 (by have := hbr1.size; simp; omega) (by simp)
          clear hown1 hgrow2 hbr1
          go_wp2
          go_roundw
          case rel => exact ⟨t + 1, by omega, by go_num, rfl, hown2, hbr2⟩
          case measure => simp [intOf]; omega
        · obtain rfl : t = k := by omega
          rw [hfl.out] at hown1
          have hp2 : Hid (p + t = t * (j + 1)) := Lib.hid (by rw [hp.out, Nat.mul_add, Nat.mul_one])
          go_wp2
          go_roundw
          case rel => exact ⟨j + 1, p + t, by omega, hp2, by go_num, by rw [Nat.add_assoc], by rw [← Nat.add_assoc]; exact hown1, hbr1⟩
          case measure => simp [intOf]; omega
    · obtain rfl : j = m := by omega
      obtain rfl : p = q := by rw [hp.out, HQ.out]
      have hxs : xs.take j = xs := List.take_of_length_le (by have := hw.1; simp [ws] at this; omega)
      rw [hxs] at hown
      clear hxs
      go_wp2
      go_ret
      exact ⟨rfl, hown, hbr⟩
end Go.Proofs.YtkmjfaaelkmnkaaDoor
