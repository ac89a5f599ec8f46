/-
  balefireref01's Put, PutLong, PutBytes: what they answer.
-/
import Derived.Test.YtjleelpnkkeakaaGreatDoorGetBoth
namespace Go.Proofs.YtjleelpnkkeakaaGreatDoor
open Go.RowKit

theorem clamp_is (kk : Int) (k : Nat) (hk : (kk < 0 ∧ k = 0) ∨ (0 ≤ kk ∧ kk ≤ 8 ∧ kk = k) ∨ (8 < kk ∧ k = 8)) :
    ∃ mm : Int, (if 0 < kk then kk else (0 : Int)) = mm ∧ (if mm < 8 then mm else 8) = (k : Int) := by
  rcases hk with ⟨h1, rfl⟩ | ⟨h1, h2, h3⟩ | ⟨h1, rfl⟩
  · exact ⟨0, if_neg (by omega), rfl⟩
  · refine ⟨kk, ?_, ?_⟩ <;> split <;> omega
  · exact ⟨kk, if_pos (by omega), if_neg (by omega)⟩

/-- the lowest bytes, the lowest first -/
def lo (j x : Nat) : List Nat := (List.range j).map fun i => x / 2 ^ (8 * i) % 256
theorem lo_len (j x : Nat) : (lo j x).length = j := by simp [lo]
theorem lo_succ (j x : Nat) : lo (j + 1) x = lo j x ++ [x / 2 ^ (8 * j) % 256] := by simp [lo, List.range_succ]
theorem lo_at (j x i : Nat) (h : i < j) : (lo j x).getD i 0 = x / 2 ^ (8 * i) % 256 := by simp [lo, h]
theorem down (x j : Nat) : x / 2 ^ (8 * j) / 256 = x / 2 ^ (8 * (j + 1)) := by
  rw [Nat.div_div_eq_div_mul, show (256 : Nat) = 2 ^ 8 from rfl, ← Nat.pow_add, show 8 * j + 8 = 8 * (j + 1) by omega]

set_option maxRecDepth 100000 in
set_option maxHeartbeats 2000000 in
theorem rput_any (A : Option Addr) (n c k x : Nat) (kk : Int) (l : List Nat) (w : World) (hk : (kk < 0 ∧ k = 0) ∨ (0 ≤ kk ∧ kk ≤ 8 ∧ kk = k) ∨ (8 < kk ∧ k = 8)) (hn : n ≤ 4194304) (hnil : A = none → n = 0 ∧ c = 0)
    (hr : Rd w A n (bs l)) (hx : x < 18446744073709551616) :
    Calls Tryz.prog 11 #[.slice A n c, .int .u64 x, .int .i64 kk] w fun e w' => ∃ v, e = .returned v ∧ w'.ownsRow w.heap.size 5 1 v (n + k) (bs (l ++ be k x)) ∧ Below w.heap.size w w' := by
  obtain ⟨i0, hi, hz0, hz1, hz2⟩ := info_parts Tryz.info5
  obtain ⟨mm, hmm, hk8⟩ := clamp_is kk k hk
  have hkl : k ≤ 8 := by omega
  clear hk
  go_enter Tryz.func11, Tryz.ntmps11
  go_wp2_with (at_builtin; refine wpList_append_rd _ rfl (.const (.slice none 0 0)) (.tmp 12) 22 rfl w.heap.size 5 i0 (.int .u8 0) 1 Tryz.underlying22 hi hz0 hz1 hz2 rfl (.slice none 0 0) 0 [] rfl (World.ownsRow_nil _ _ _ _) A n c _ rfl hnil hr (bs_one _) (by unfold maxLen; omega) (by omega) (Nat.le_refl _) ?_; intro v1 w1 hown1 hgrow1; simp only [Nat.zero_add, List.nil_append] at hown1; obtain ⟨V1, c1, rfl, _, _⟩ := own_form hown1)
  have hb1 : Below w.heap.size w w1 := (Below.refl _ _).grown hgrow1 (Nat.le_refl _) (by simp [Value.ownBlock])
  clear hgrow1 hr hnil
  go_loopw [1, 9, 10] (fun xv lv i wr => ∃ j : Nat, j ≤ k ∧ i = .int .i64 j ∧ xv = .int .u64 (x / 2 ^ (8 * j) : Nat) ∧ wr.ownsRow w1.heap.size 5 1 lv j (bs (lo j x)) ∧ Below w1.heap.size w1 wr) (fun _ _ i _ => k - (intOf i).toNat)
  case atStart => exact ⟨0, Nat.zero_le _, rfl, by simp, World.ownsRow_nil _ _ _ _, Below.refl _ _⟩
  case round =>
    obtain ⟨j, hj, rfl, rfl, hown, hbr⟩ := hrel
    obtain ⟨LV, lc, rfl, _, _⟩ := own_form hown
    by_cases hlt : j < k
    · have hdn := Lib.hid (down x j)
      have hls := Lib.hid (lo_succ j x)
      obtain ⟨y, hy⟩ : ∃ y, y = x / 2 ^ (8 * j) := ⟨_, rfl⟩
      have hyx : y < 18446744073709551616 := by rw [hy]; exact Nat.lt_of_le_of_lt (Nat.div_le_self _ _) hx
      rw [← hy] at hdn hls ⊢
      clear hy
      go_wp2_with (at_builtin; refine wpList_one _ rfl (.tmp 22) (.tmp 26) 22 rfl w1.heap.size 5 i0 (.int .u8 0) 1 Tryz.underlying22 hi hz0 hz1 hz2 rfl _ j _ rfl (hown.alloc _) ⟨wr.heap.size, 0, none⟩ 1 (.int .u8 ((y : Int) % 256)) rfl ((At.new wr 5 #[_]).cell 0) rfl (by omega) (by unfold maxLen; omega) (by have := hbr.size; simp; omega) ?_; intro v2 w2 hown2 hgrow2 _)
      have hbr2 : Below w1.heap.size w1 w2 := (hbr.alloc hbr.size _).grown hgrow2 (by have := hbr.size; simp; omega) (fun g hg => (hown.lt g hg).1)
      have e2 : bs (lo j x) ++ [Value.int .u8 ((y : Int) % 256)] = bs (lo (j + 1) x) := by rw [hls.out, bs_append]; simp [bs]
      rw [e2] at hown2
      clear hown hgrow2 hbr e2
      go_wp2
      go_roundw
      case rel => exact ⟨j + 1, by omega, by go_num, by rw [← hdn.out]; go_num, hown2, hbr2⟩
      case measure => simp [intOf]; omega
    · obtain rfl : j = k := by omega
      obtain ⟨wb, rfl⟩ : ∃ wb : World, wb = wr := ⟨_, rfl⟩
      generalize x / 2 ^ (8 * j) = xe
      have ho1 := own_on hown1 hbr (Nat.le_refl _)
      have l1 := hown1.lt
      have llow := hown.lt
      have hbw := bel_tr hb1 hbr
      clear hown1 hb1
      go_wp2
      go_loopw [7, 11] (fun v i wi => ∃ r : Nat, r ≤ j ∧ i = .int .i64 ((r : Int) - 1) ∧ wi.ownsRow w.heap.size 5 1 v (n + (j - r)) (bs (l ++ (be j x).take (j - r))) ∧ (∀ g, v.ownBlock = some g → g < w1.heap.size ∨ wb.heap.size ≤ g) ∧
          wi.ownsRow w1.heap.size 5 1 (.slice LV j lc) j (bs (lo j x)) ∧ wb.heap.size ≤ wi.heap.size ∧ Below w.heap.size w wi) (fun _ i _ => (intOf i + 1).toNat)
      case atStart => exact ⟨j, Nat.le_refl _, by go_num, by simpa using ho1, fun g hg => .inl (l1 g hg).2, hown, Nat.le_refl _, hbw⟩
      case round =>
        obtain ⟨r, hr, rfl, hv, hvb, hlow, hsz, hbi⟩ := hrel
        obtain ⟨V, cv, rfl, _, _⟩ := own_form hv
        clear ho1 hown hbr hbw
        match r, hr with
        | 0, _ =>
          simp only [Nat.sub_zero] at hv
          rw [List.take_of_length_le (by rw [be_len]; exact Nat.le_refl _)] at hv
          go_wp2
          go_ret
          exact ⟨_, rfl, hv, hbi⟩
        | r + 1, hr =>
          have er : ((r + 1 : Nat) : Int) - 1 = (r : Int) := by omega
          rw [er]
          obtain ⟨b, off, rfl, hbs, hcell⟩ := (own_rd hlow).spot (show r < j by omega)
          have hx1 : wr.cell? ⟨b, off + r, none⟩ = some (.int .u8 (x / 2 ^ (8 * r) % 256 : Nat)) := by rw [hcell r _ (bs_at _ r (by rw [lo_len]; omega)), lo_at j x r (by omega)]
          have hbt := Lib.hid (be_take j x (j - (r + 1)) (by omega))
          rw [show j - (r + 1) + 1 = j - r by omega, show j - 1 - (j - (r + 1)) = r by omega] at hbt
          obtain ⟨y, hy⟩ : ∃ y, y = x / 2 ^ (8 * r) % 256 := ⟨_, rfl⟩
          rw [← hy] at hbt hx1
          clear hcell hy
          have hap : (Value.slice (some ⟨b, off, none⟩) j lc).ownBlock = none ∨ (Value.slice (some ⟨b, off, none⟩) j lc).ownBlock ≠ (Value.slice V (n + (j - (r + 1))) cv).ownBlock := by
            cases hq : (Value.slice (some ⟨b, off, none⟩) j lc).ownBlock with
            | none => exact .inl rfl
            | some g =>
              refine .inr fun e => ?_
              have h1 := llow g hq
              have h2 := hvb g e.symm
              omega
          go_wp2_with (at_builtin; refine wpList_one _ rfl (.tmp 36) (.tmp 41) 22 rfl w.heap.size 5 i0 (.int .u8 0) 1 Tryz.underlying22 hi hz0 hz1 hz2 rfl _ (n + (j - (r + 1))) _ rfl (hv.alloc _) ⟨wr.heap.size, 0, none⟩ 1 (.int .u8 (y : Int)) rfl ((At.new wr 5 #[_]).cell 0) rfl (by omega) (by unfold maxLen; omega) (by have := hbi.size; simp; omega) ?_; intro v2 w2 hown2 hgrow2 hcase)
          have hlow2 := (hlow.alloc _).kept hgrow2 hap
          have hbi2 : Below w.heap.size w w2 := (hbi.alloc hbi.size _).grown hgrow2 (by have := hbi.size; simp; omega) (fun g hg => (hv.lt g hg).1)
          have hvb2 : ∀ g, v2.ownBlock = some g → g < w1.heap.size ∨ wb.heap.size ≤ g := by
            rcases hcase with ⟨g, cap, e1, rfl⟩ | ⟨_, h2⟩
            · intro g' hg'
              have e3 : Value.slice V (n + (j - (r + 1))) cv = .slice (some ⟨g, 0, none⟩) (n + (j - (r + 1))) cap := e1
              refine hvb g' ?_
              rw [e3]
              exact hg'
            · intro g hg
              have := h2 g hg
              simp at this
              omega
          have hsz2 : wb.heap.size ≤ w2.heap.size := by have := hgrow2.size; simp at this; omega
          have e2 : bs (l ++ (be j x).take (j - (r + 1))) ++ [Value.int .u8 (y : Int)] = bs (l ++ (be j x).take (j - r)) := by rw [hbt.out, ← List.append_assoc, bs_append (l ++ _)]; simp [bs]
          rw [e2, show n + (j - (r + 1)) + 1 = n + (j - r) by omega] at hown2
          clear hv hgrow2 hbi hcase hvb hlow e2 hsz hap
          go_wp2
          go_roundw
          case rel => exact ⟨r, by omega, by go_num, hown2, hvb2, hlow2, hsz2, hbi2⟩
          case measure => simp [intOf]
end Go.Proofs.YtjleelpnkkeakaaGreatDoor
