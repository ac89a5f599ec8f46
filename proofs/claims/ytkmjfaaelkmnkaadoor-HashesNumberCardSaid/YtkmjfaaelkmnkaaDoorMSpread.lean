/-
  shas.spread: a block's 16 numbers, and 48 more of them.
-/
import Derived.Test.YtkmjfaaelkmnkaaDoorMNone
import Derived.Test.YtkmjfaaelkmnkaaDoorMOps
namespace Go.Proofs.YtkmjfaaelkmnkaaDoor
open Go.RowKit
set_option linter.unusedSimpArgs false
set_option linter.unusedVariables false

theorem zero_words : (Tryd.prog.info? 88).map (·.zero) = some (some (.agg (hs (List.replicate 64 0)).toArray)) := by kernel_rfl
theorem size_words : (Tryd.prog.info? 88).map (·.size) = some 64 := by kernel_rfl
theorem under_words : Tryd.prog.underlying 88 = some (.array 64 62) := by kernel_rfl
theorem fill_set (l : List Nat) (n v : Nat) (hn : l.length + n = 64) (hp : 0 < n) : (hs (l ++ List.replicate n 0)).toArray.setIfInBounds l.length (.int .u32 (v : Nat)) = (hs ((l ++ [v]) ++ List.replicate (n - 1) 0)).toArray := by
  rw [List.setIfInBounds_toArray, hs_set]
  obtain ⟨k, rfl⟩ : ∃ k, n = k + 1 := ⟨n - 1, by omega⟩
  simp [List.replicate_succ]
theorem At.rdB {w : World} {g : Nat} {t : TypeId} {B : List Nat} (h : At w g t (bs B).toArray) (k : Nat) (hk : k ≤ B.length) : Rd w (some ⟨g, k, none⟩) (B.length - k) (bs (B.drop k)) := by
  refine ⟨by simp [bs], fun _ => ⟨g, k, rfl, h.lt, fun j u hu => ?_⟩⟩
  rw [h.cell]
  simpa [bs] using hu
theorem At.word {w : World} {g : Nat} {t : TypeId} {l : List Nat} (h : At w g t (hs l).toArray) (k : Nat) (hk : k < l.length) : w.cell? ⟨g, k, none⟩ = some (.int .u32 (l.getD k 0 : Nat)) := by
  rw [h.cell, List.getElem?_toArray]; exact hs_at l k hk
theorem getD_app (l m : List Nat) (k : Nat) (h : k < l.length) : (l ++ m).getD k 0 = l.getD k 0 := by simp [List.getD, List.getElem?_append_left h]
theorem getD_lt (l : List Nat) (h : ∀ x ∈ l, x < 4294967296) (k : Nat) : l.getD k 0 < 4294967296 := by
  by_cases hk : k < l.length
  · rw [List.getD_eq_getElem?_getD, List.getElem?_eq_getElem hk]; exact h _ (List.getElem_mem hk)
  · rw [List.getD_eq_getElem?_getD, List.getElem?_eq_none (by omega)]; decide

set_option maxRecDepth 100000 in
set_option maxHeartbeats 4000000 in
theorem spread_ok (B : List Nat) (hl : B.length = 64) (hb : ∀ y ∈ B, y < 256) (w : World) :
    Calls Tryd.prog 52 #[.agg (bs B).toArray] w fun e w' => e = .returned (.agg (hs (sched B)).toArray) ∧ Below w.heap.size w w' := by
  have HB := Lib.hid hb
  have HL := Lib.hid hl
  clear hb hl
  go_enter Tryd.func52, Tryd.ntmps52
  go_wp2_with (first | (refine law_box (ty := 65) (bs B).toArray rfl ?_; intro w1 N1) | (refine law_alloc (d := 2) (ty := 88) _ zero_words ?_; intro w2 N2) | (refine law_alloc (d := 3) (ty := 88) _ zero_words ?_; intro w3 N3))
  have L1 := (N1.at_.on N2.bel).on N3.bel
  have L2 := N2.at_.on N3.bel
  have L3 := N3.at_
  have BW := bel_tr (bel_tr N1.bel N2.bel) N3.bel
  have e1 := N1.size
  have e2 := N2.size
  have E3 : w.heap.size ≤ w2.heap.size := by omega
  have D12 : w.heap.size ≠ w2.heap.size := by omega
  have D13 : w1.heap.size ≠ w2.heap.size := by omega
  have E2 : w.heap.size ≤ w1.heap.size := by omega
  clear N1 N2 N3 e1 e2
  generalize hg3 : w2.heap.size = g3 at *
  generalize hg2 : w1.heap.size = g2 at *
  obtain ⟨g1, hg1⟩ : ∃ g, g = w.heap.size := ⟨_, rfl⟩
  rw [← hg1] at L1 D12 ⊢
  have M1 := Lib.hid L1
  have M2 := Lib.hid L2
  have M3 := Lib.hid L3
  have MB := Lib.hid BW
  clear L1 L2 L3 BW hg1 hg2 hg3
  go_loopw [10] (fun s wr => ∃ i : Nat, i ≤ 16 ∧ s = .int .i64 i ∧ At wr g3 88 (hs (first B i ++ List.replicate (64 - i) 0)).toArray ∧ At wr g1 65 (bs B).toArray ∧ At wr g2 88 (hs (List.replicate 64 0)).toArray ∧ Below w.heap.size w wr) (fun s _ => 16 - (intOf s).toNat)
  case atStart => exact ⟨0, by omega, rfl, M3.out, M1.out, M2.out, MB.out⟩
  case round =>
    obtain ⟨i, hi, rfl, P3, P1, P2, PB⟩ := hrel
    clear M1 M2 M3 MB
    by_cases hlt : i < 16
    · have R1 := Lib.hid (P1.rdB (4 * i) (by have := HL.out; omega))
      have Q3 := Lib.hid P3
      have Q1 := Lib.hid P1
      have Q2 := Lib.hid P2
      have QB := Lib.hid PB
      have old := P3.word i (by simp [first_len]; omega)
      have frz := P3.frozen i
      clear P3 P1 P2 PB
      have vlt : val ((B.drop (4 * i)).take 4) < 4294967296 := val4_lt _ fun y hy => HB.out y (List.mem_of_mem_drop hy)
      have G : Hid (Calls Tryd.prog 50 #[.slice (some ⟨g1, 4 * i, none⟩) (64 - 4 * i) (64 - 4 * i), .int .i64 4] wr fun e w' => e = .returned (.tuple #[.int .u64 (val ((B.drop (4 * i)).take 4) : Nat), .int .i64 0]) ∧ wr = w') :=
        Lib.hid (get_ok _ _ _ 4 _ wr (by omega) (by omega) (Nat.le_refl _) (by omega) (by have := R1.out; rwa [HL.out] at this) (fun y hy => HB.out y (List.mem_of_mem_drop hy)))
      have f4 := Lib.hid (first_succ B i)
      generalize val ((B.drop (4 * i)).take 4) = v at *
      have cv : IntKind.u32.wrap (v : Int) = (v : Int) := by rw [IntKind.wrap_u32']; omega
      have m4 : IntKind.i64.wrap ((4 : Int) * (i : Int)) = ((4 * i : Nat) : Int) := by simp [IntKind.wrap, IntKind.bits, IntKind.signed]; omega
      clear R1
      go_wp2_with (first | refine law_sliceB g1 (4 * i) _ (by omega) rfl rfl (by omega) ?_ | go_at_call 50; refine G.out.mono ?_; rintro e w' ⟨rfl, rfl⟩)
      go_roundw
      case rel =>
        refine ⟨i + 1, by omega, by go_num, ?_, Q1.out.far (p := ⟨g3, i, none⟩) (fun e => D12 e.symm) _, Q2.out.far (p := ⟨g3, i, none⟩) (fun e => D13 e.symm) _, QB.out.setCell E3 _⟩
        have h := Q3.out.set i (.int .u32 (v : Nat))
        have e := fill_set (first B i) (64 - i) v (by rw [first_len]; omega) (by omega)
        rw [first_len] at e
        rw [e, ← f4.out, show 64 - i - 1 = 64 - (i + 1) by omega] at h
        exact h
      case measure => simp [intOf]; omega
    · obtain rfl : i = 16 := by omega
      have M3 := Lib.hid P3
      have M1 := Lib.hid P1
      have M2 := Lib.hid P2
      have MB := Lib.hid PB
      clear P3 P1 P2 PB hlt hi
      go_wp2
      go_loopw [7] (fun s wr => ∃ l : List Nat, 16 ≤ l.length ∧ l.length ≤ 64 ∧ l = ext (first B 16) (l.length - 16) ∧ s = .int .i64 l.length ∧ At wr g3 88 (hs (l ++ List.replicate (64 - l.length) 0)).toArray ∧ At wr g1 65 (bs B).toArray ∧ At wr g2 88 (hs (List.replicate 64 0)).toArray ∧ Below w.heap.size w wr) (fun s _ => 64 - (intOf s).toNat)
      case atStart => exact ⟨first B 16, by rw [first_len]; omega, by rw [first_len]; omega, by rw [first_len]; rfl, by rw [first_len]; rfl, by have := M3.out; rwa [first_len], M1.out, M2.out, MB.out⟩
      case round =>
        obtain ⟨l, hl1, hl2, hle, rfl, P3, P1, P2, PB⟩ := hrel
        clear M1 M2 M3 MB
        by_cases hlt : l.length < 64
        · have LL := ext_lt _ (first_lt B HB.out 16) (l.length - 16)
          rw [← hle] at LL
          have F15 := P3.word (l.length - 15) (by simp; omega)
          have F2 := P3.word (l.length - 2) (by simp; omega)
          have F16 := P3.word (l.length - 16) (by simp; omega)
          have F7 := P3.word (l.length - 7) (by simp; omega)
          have OLD := P3.word l.length (by simp; omega)
          rw [getD_app _ _ _ (by omega)] at F15 F2 F16 F7
          have hx := getD_lt l LL (l.length - 15)
          have hy := getD_lt l LL (l.length - 2)
          have hp := getD_lt l LL (l.length - 16)
          have hq := getD_lt l LL (l.length - 7)
          have NXT := Lib.hid (show nextw l = (((l.getD (l.length - 16) 0 + l.getD (l.length - 7) 0) % 4294967296 + (turn (l.getD (l.length - 15) 0) [7, 18] ^^^ l.getD (l.length - 15) 0 / 2 ^ 3)) % 4294967296 + (turn (l.getD (l.length - 2) 0) [17, 19] ^^^ l.getD (l.length - 2) 0 / 2 ^ 10)) % 4294967296 from rfl)
          clear LL
          generalize l.getD (l.length - 15) 0 = x at *
          generalize l.getD (l.length - 2) 0 = y at *
          generalize l.getD (l.length - 16) 0 = p at *
          generalize l.getD (l.length - 7) 0 = q at *
          have Q3 := Lib.hid P3
          have Q1 := Lib.hid P1
          have Q2 := Lib.hid P2
          have QB := Lib.hid PB
          have LG := P3.lt
          have HLE := Lib.hid hle
          clear P3 P1 P2 PB hle
          go_wp2
          try simp only [List.append_eq, List.cons_append, List.nil_append]
          refine wp_region_noPanic ?_
          refine wp_region_held_drew (S := fun w' => Below wr.heap.size wr w') (by kernel_rfl) ((Below.refl _ _).drew) (fun _ => ?_)
          refine wpAnyH_cores (fuel := 2) (⟨0, 29, [], Kind.val (.int .i64 (l.length : Nat)), true⟩ :: ⟨1, 30, [0], Kind.val (.int .i64 ((l.length - 15) : Nat)), true⟩ :: ⟨2, 31, [1], Kind.val (.pointer (some ⟨g3, (l.length - 15), none⟩)), true⟩ :: ⟨3, 32, [2], Kind.val (.int .u32 (x : Nat)), true⟩ :: ⟨4, 33, [3], Kind.val (.int .i64 (l.length : Nat)), true⟩ :: ⟨5, 34, [4], Kind.val (.int .i64 ((l.length - 2) : Nat)), true⟩ :: ⟨6, 35, [5], Kind.val (.pointer (some ⟨g3, (l.length - 2), none⟩)), true⟩ :: ⟨7, 36, [6], Kind.val (.int .u32 (y : Nat)), true⟩ :: []) _ _ wr _ ?_ ?_ ?_ ?_ ?_ ?_ ?_ ?_ ?_ ?_ ?_
          · rfl
          · kernel_rfl
          · exact of_decide_eq_true (by kernel_rfl)
          · exact all_cons ⟨_, by rfl, by rfl⟩ (all_cons ⟨_, by rfl, by rfl⟩ (all_cons ⟨_, by rfl, by rfl⟩ (all_cons ⟨_, by rfl, by rfl⟩ (all_cons ⟨_, by rfl, by rfl⟩ (all_cons ⟨_, by rfl, by rfl⟩ (all_cons ⟨_, by rfl, by rfl⟩ (all_cons ⟨_, by rfl, by rfl⟩ (all_nil))))))))
          · exact fun _ hb => hb
          · exact (Below.refl _ _).drew
          · kernel_rfl
          · exact fun _ _ _ _ _ h => h
          · refine all_cons ?_ (all_cons ?_ (all_cons ?_ (all_cons ?_ (all_cons ?_ (all_cons ?_ (all_cons ?_ (all_cons ?_ (all_nil))))))))
            · exact core_move _ _ _ _ _ _ (by rfl) (by rfl) (known_old 7 _ (of_decide_eq_true (by rfl)) (by rfl))
            · exact core_held2C _ _ _ _ _ _ _ _ _ _ (by rfl) (by rfl) (known_core 0 29 _ _ (of_decide_eq_true (by rfl)) (by rfl) (by rfl) (by rfl)) (known_const _) (fun ρ w kx ky hs => sub64 (l.length) (15) ((l.length - 15)) (by omega) (by omega) kx ky)
            · exact core_held2C _ _ _ _ _ _ _ _ _ _ (by rfl) (by rfl) (known_old 3 _ (of_decide_eq_true (by rfl)) (by rfl)) (known_core 1 30 _ _ (of_decide_eq_true (by rfl)) (by rfl) (by rfl) (by rfl)) (fun ρ w kx ky hs => at64 g3 ((l.length - 15)) (by omega) kx ky)
            · exact core_heldC _ _ _ _ _ _ _ _ (by rfl) (by rfl) (known_core 2 31 _ _ (of_decide_eq_true (by rfl)) (by rfl) (by rfl) (by rfl)) (fun ρ w kx hs => load32 _ _ _ kx ((hs.cell LG).trans (F15)))
            · exact core_move _ _ _ _ _ _ (by rfl) (by rfl) (known_old 7 _ (of_decide_eq_true (by rfl)) (by rfl))
            · exact core_held2C _ _ _ _ _ _ _ _ _ _ (by rfl) (by rfl) (known_core 4 33 _ _ (of_decide_eq_true (by rfl)) (by rfl) (by rfl) (by rfl)) (known_const _) (fun ρ w kx ky hs => sub64 (l.length) (2) ((l.length - 2)) (by omega) (by omega) kx ky)
            · exact core_held2C _ _ _ _ _ _ _ _ _ _ (by rfl) (by rfl) (known_old 3 _ (of_decide_eq_true (by rfl)) (by rfl)) (known_core 5 34 _ _ (of_decide_eq_true (by rfl)) (by rfl) (by rfl) (by rfl)) (fun ρ w kx ky hs => at64 g3 ((l.length - 2)) (by omega) kx ky)
            · exact core_heldC _ _ _ _ _ _ _ _ (by rfl) (by rfl) (known_core 6 35 _ _ (of_decide_eq_true (by rfl)) (by rfl) (by rfl) (by rfl)) (fun ρ w kx hs => load32 _ _ _ kx ((hs.cell LG).trans (F2)))
          · refine all_cons ?_ (all_cons ?_ (all_cons ?_ (all_cons ?_ (all_cons ?_ (all_cons ?_ (all_cons ?_ (all_cons ?_ (all_nil))))))))
            · exact core_stepAs _ (by rfl)
            · exact core_stepAs _ (by rfl)
            · exact core_stepAs _ (by rfl)
            · exact core_stepAs _ (by rfl)
            · exact core_stepAs _ (by rfl)
            · exact core_stepAs _ (by rfl)
            · exact core_stepAs _ (by rfl)
            · exact core_stepAs _ (by rfl)
          intro vs y1 hc
          obtain ⟨vv0, vv1, vv2, vv3, vv4, vv5, vv6, vv7, rfl⟩ := len8 vs hc.lv
          have qq0 : vv0 = .int .i64 (l.length : Nat) := by obtain ⟨xx, hx, hy⟩ := hc.ok 0 _ rfl rfl; exact (Option.some.inj (show some vv0 = some xx from hx)).trans hy
          have qq1 : vv1 = .int .i64 ((l.length - 15) : Nat) := by obtain ⟨xx, hx, hy⟩ := hc.ok 1 _ rfl rfl; exact (Option.some.inj (show some vv1 = some xx from hx)).trans hy
          have qq2 : vv2 = .pointer (some ⟨g3, (l.length - 15), none⟩) := by obtain ⟨xx, hx, hy⟩ := hc.ok 2 _ rfl rfl; exact (Option.some.inj (show some vv2 = some xx from hx)).trans hy
          have qq3 : vv3 = .int .u32 (x : Nat) := by obtain ⟨xx, hx, hy⟩ := hc.ok 3 _ rfl rfl; exact (Option.some.inj (show some vv3 = some xx from hx)).trans hy
          have qq4 : vv4 = .int .i64 (l.length : Nat) := by obtain ⟨xx, hx, hy⟩ := hc.ok 4 _ rfl rfl; exact (Option.some.inj (show some vv4 = some xx from hx)).trans hy
          have qq5 : vv5 = .int .i64 ((l.length - 2) : Nat) := by obtain ⟨xx, hx, hy⟩ := hc.ok 5 _ rfl rfl; exact (Option.some.inj (show some vv5 = some xx from hx)).trans hy
          have qq6 : vv6 = .pointer (some ⟨g3, (l.length - 2), none⟩) := by obtain ⟨xx, hx, hy⟩ := hc.ok 6 _ rfl rfl; exact (Option.some.inj (show some vv6 = some xx from hx)).trans hy
          have qq7 : vv7 = .int .u32 (y : Nat) := by obtain ⟨xx, hx, hy⟩ := hc.ok 7 _ rfl rfl; exact (Option.some.inj (show some vv7 = some xx from hx)).trans hy
          have BZ := hc.bel
          clear hc
          subst qq0 qq1 qq2 qq3 qq4 qq5 qq6 qq7
          simp only [List.map_cons, List.map_nil, over, Act.put, List.setIfInBounds_toArray, List.set_cons_zero, List.set_cons_succ]
          refine assign_one (i := 8) _ 8 _ _ _ (.int .u32 (x : Nat)) (by kernel_rfl) (by rfl) (by rfl) (BZ) ?_
          try simp only [Act.put, List.setIfInBounds_toArray, List.set_cons_zero, List.set_cons_succ]
          refine assign_one (i := 9) _ 9 _ _ _ (.int .u32 (y : Nat)) (by kernel_rfl) (by rfl) (by rfl) (BZ) ?_
          try simp only [Act.put, List.setIfInBounds_toArray, List.set_cons_zero, List.set_cons_succ]
          refine wpAnyH_done (by kernel_rfl) ?_ _
          refine NoPanic.normal ?_
          have F16 := cell_on BZ F16
          have F7 := cell_on BZ F7
          have OLD := cell_on BZ OLD
          have LG := Nat.lt_of_lt_of_le LG BZ.size
          have Q3 := Lib.hid (Q3.out.on BZ)
          have Q1 := Lib.hid (Q1.out.on BZ)
          have Q2 := Lib.hid (Q2.out.on BZ)
          have QB := Lib.hid (bel_tr QB.out BZ)
          clear BZ
          have FRZ : ∀ w', Below y1.heap.size y1 w' → w'.frozen? ⟨g3, l.length, none⟩ = false := fun w' hb => (Q3.out.on hb).frozen _
          go_wp2
          try simp only [List.append_eq, List.cons_append, List.nil_append]
          refine wp_region_noPanic ?_
          refine wp_region_held_drew (S := fun w' => Same y1 ⟨g3, l.length, none⟩ w') (by kernel_rfl) (Same.drew _ _) (fun _ => ?_)
          refine wpAnyH_cores (fuel := 1) (⟨0, 37, [], Kind.val (.int .i64 (l.length : Nat)), true⟩ :: ⟨1, 38, [0], Kind.val (.int .i64 (l.length : Nat)), true⟩ :: ⟨2, 39, [1], Kind.val (.int .i64 ((l.length - 16) : Nat)), true⟩ :: ⟨3, 40, [2], Kind.val (.pointer (some ⟨g3, (l.length - 16), none⟩)), true⟩ :: ⟨4, 41, [3], Kind.val (.int .u32 (p : Nat)), true⟩ :: ⟨5, 42, [4], Kind.val (.int .i64 (l.length : Nat)), true⟩ :: ⟨6, 43, [5], Kind.val (.int .i64 ((l.length - 7) : Nat)), true⟩ :: ⟨7, 44, [6], Kind.val (.pointer (some ⟨g3, (l.length - 7), none⟩)), true⟩ :: ⟨8, 45, [7], Kind.val (.int .u32 (q : Nat)), true⟩ :: ⟨9, 46, [4, 8], Kind.val (.int .u32 ((p + q) % 4294967296 : Nat)), true⟩ :: ⟨10, 47, [9], Kind.val (.int .u32 (x : Nat)), true⟩ :: ⟨13, 50, [10], Kind.val (.int .u32 (x : Nat)), true⟩ :: ⟨14, 51, [11], Kind.val (.int .u32 ((x) / 2 ^ 3 : Nat)), true⟩ :: ⟨17, 54, [12], Kind.val (.int .u32 (y : Nat)), true⟩ :: ⟨20, 57, [13], Kind.val (.int .u32 (y : Nat)), true⟩ :: ⟨21, 58, [14], Kind.val (.int .u32 ((y) / 2 ^ 10 : Nat)), true⟩ :: ⟨11, 48, [15], Kind.slice y1.heap.size 3 #[.int .i64 7, .int .i64 18] 2, false⟩ :: ⟨12, 49, [10, 15, 16], Kind.val (.int .u32 (turn x [7, 18] : Nat)), false⟩ :: ⟨15, 52, [12, 15, 17], Kind.val (.int .u32 ((turn x [7, 18]) ^^^ ((x) / 2 ^ 3) : Nat)), true⟩ :: ⟨16, 53, [9, 15, 18], Kind.val (.int .u32 ((((p + q) % 4294967296) + ((turn x [7, 18]) ^^^ ((x) / 2 ^ 3))) % 4294967296 : Nat)), true⟩ :: ⟨18, 55, [15], Kind.slice y1.heap.size 3 #[.int .i64 17, .int .i64 19] 2, false⟩ :: ⟨19, 56, [13, 15, 17, 20], Kind.val (.int .u32 (turn y [17, 19] : Nat)), false⟩ :: ⟨22, 59, [15, 21], Kind.val (.int .u32 ((turn y [17, 19]) ^^^ ((y) / 2 ^ 10) : Nat)), true⟩ :: ⟨23, 60, [15, 19, 22], Kind.val (.int .u32 ((((((p + q) % 4294967296) + ((turn x [7, 18]) ^^^ ((x) / 2 ^ 3))) % 4294967296) + ((turn y [17, 19]) ^^^ ((y) / 2 ^ 10))) % 4294967296 : Nat)), true⟩ :: ⟨24, 61, [0, 1, 2, 3, 4, 5, 6, 7, 8, 9, 10, 11, 12, 13, 14, 15, 16, 17, 18, 19, 20, 21, 22, 23], Kind.val (.pointer (some ⟨g3, l.length, none⟩)), true⟩ :: []) _ _ y1 _ ?_ ?_ ?_ ?_ ?_ ?_ ?_ ?_ ?_ ?_ ?_
          · rfl
          · kernel_rfl
          · exact of_decide_eq_true (by kernel_rfl)
          · exact all_cons ⟨_, by rfl, by rfl⟩ (all_cons ⟨_, by rfl, by rfl⟩ (all_cons ⟨_, by rfl, by rfl⟩ (all_cons ⟨_, by rfl, by rfl⟩ (all_cons ⟨_, by rfl, by rfl⟩ (all_cons ⟨_, by rfl, by rfl⟩ (all_cons ⟨_, by rfl, by rfl⟩ (all_cons ⟨_, by rfl, by rfl⟩ (all_cons ⟨_, by rfl, by rfl⟩ (all_cons ⟨_, by rfl, by rfl⟩ (all_cons ⟨_, by rfl, by rfl⟩ (all_cons ⟨_, by rfl, by rfl⟩ (all_cons ⟨_, by rfl, by rfl⟩ (all_cons ⟨_, by rfl, by rfl⟩ (all_cons ⟨_, by rfl, by rfl⟩ (all_cons ⟨_, by rfl, by rfl⟩ (all_cons ⟨_, by rfl, by rfl⟩ (all_cons ⟨_, by rfl, by rfl⟩ (all_cons ⟨_, by rfl, by rfl⟩ (all_cons ⟨_, by rfl, by rfl⟩ (all_cons ⟨_, by rfl, by rfl⟩ (all_cons ⟨_, by rfl, by rfl⟩ (all_cons ⟨_, by rfl, by rfl⟩ (all_cons ⟨_, by rfl, by rfl⟩ (all_cons ⟨_, by rfl, by rfl⟩ (all_nil)))))))))))))))))))))))))
          · exact fun _ hb => Same.of hb
          · exact (Below.refl _ _).drew
          · kernel_rfl
          · exact fun _ _ _ _ _ h => h
          · refine all_cons ?_ (all_cons ?_ (all_cons ?_ (all_cons ?_ (all_cons ?_ (all_cons ?_ (all_cons ?_ (all_cons ?_ (all_cons ?_ (all_cons ?_ (all_cons ?_ (all_cons ?_ (all_cons ?_ (all_cons ?_ (all_cons ?_ (all_cons ?_ (all_cons ?_ (all_cons ?_ (all_cons ?_ (all_cons ?_ (all_cons ?_ (all_cons ?_ (all_cons ?_ (all_cons ?_ (all_cons ?_ (all_nil)))))))))))))))))))))))))
            · exact core_move _ _ _ _ _ _ (by rfl) (by rfl) (known_old 7 _ (of_decide_eq_true (by rfl)) (by rfl))
            · exact core_move _ _ _ _ _ _ (by rfl) (by rfl) (known_old 7 _ (of_decide_eq_true (by rfl)) (by rfl))
            · exact core_held2C _ _ _ _ _ _ _ _ _ _ (by rfl) (by rfl) (known_core 1 38 _ _ (of_decide_eq_true (by rfl)) (by rfl) (by rfl) (by rfl)) (known_const _) (fun ρ w kx ky hs => sub64 (l.length) (16) ((l.length - 16)) (by omega) (by omega) kx ky)
            · exact core_held2C _ _ _ _ _ _ _ _ _ _ (by rfl) (by rfl) (known_old 3 _ (of_decide_eq_true (by rfl)) (by rfl)) (known_core 2 39 _ _ (of_decide_eq_true (by rfl)) (by rfl) (by rfl) (by rfl)) (fun ρ w kx ky hs => at64 g3 ((l.length - 16)) (by omega) kx ky)
            · exact core_heldC _ _ _ _ _ _ _ _ (by rfl) (by rfl) (known_core 3 40 _ _ (of_decide_eq_true (by rfl)) (by rfl) (by rfl) (by rfl)) (fun ρ w kx hs => load32 _ _ _ kx ((hs _ LG (fun e => by injection e with e1 e2; omega)).trans (F16)))
            · exact core_move _ _ _ _ _ _ (by rfl) (by rfl) (known_old 7 _ (of_decide_eq_true (by rfl)) (by rfl))
            · exact core_held2C _ _ _ _ _ _ _ _ _ _ (by rfl) (by rfl) (known_core 5 42 _ _ (of_decide_eq_true (by rfl)) (by rfl) (by rfl) (by rfl)) (known_const _) (fun ρ w kx ky hs => sub64 (l.length) (7) ((l.length - 7)) (by omega) (by omega) kx ky)
            · exact core_held2C _ _ _ _ _ _ _ _ _ _ (by rfl) (by rfl) (known_old 3 _ (of_decide_eq_true (by rfl)) (by rfl)) (known_core 6 43 _ _ (of_decide_eq_true (by rfl)) (by rfl) (by rfl) (by rfl)) (fun ρ w kx ky hs => at64 g3 ((l.length - 7)) (by omega) kx ky)
            · exact core_heldC _ _ _ _ _ _ _ _ (by rfl) (by rfl) (known_core 7 44 _ _ (of_decide_eq_true (by rfl)) (by rfl) (by rfl) (by rfl)) (fun ρ w kx hs => load32 _ _ _ kx ((hs _ LG (fun e => by injection e with e1 e2; omega)).trans (F7)))
            · exact core_held2C _ _ _ _ _ _ _ _ _ _ (by rfl) (by rfl) (known_core 4 41 _ _ (of_decide_eq_true (by rfl)) (by rfl) (by rfl) (by rfl)) (known_core 8 45 _ _ (of_decide_eq_true (by rfl)) (by rfl) (by rfl) (by rfl)) (fun ρ w kx ky hs => add32 _ _ kx ky)
            · exact core_move _ _ _ _ _ _ (by rfl) (by rfl) (known_old 8 _ (of_decide_eq_true (by rfl)) (by rfl))
            · exact core_move _ _ _ _ _ _ (by rfl) (by rfl) (known_old 8 _ (of_decide_eq_true (by rfl)) (by rfl))
            · exact core_held2C _ _ _ _ _ _ _ _ _ _ (by rfl) (by rfl) (known_core 11 50 _ _ (of_decide_eq_true (by rfl)) (by rfl) (by rfl) (by rfl)) (known_const _) (fun ρ w kx ky hs => shr32 _ 3 (by decide) kx ky)
            · exact core_move _ _ _ _ _ _ (by rfl) (by rfl) (known_old 9 _ (of_decide_eq_true (by rfl)) (by rfl))
            · exact core_move _ _ _ _ _ _ (by rfl) (by rfl) (known_old 9 _ (of_decide_eq_true (by rfl)) (by rfl))
            · exact core_held2C _ _ _ _ _ _ _ _ _ _ (by rfl) (by rfl) (known_core 14 57 _ _ (of_decide_eq_true (by rfl)) (by rfl) (by rfl) (by rfl)) (known_const _) (fun ρ w kx ky hs => shr32 _ 10 (by decide) kx ky)
            · exact core_pureAs _ (by rfl)
            · exact core_pureAs _ (by rfl)
            · exact core_held2C _ _ _ _ _ _ _ _ _ _ (by rfl) (by rfl) (known_core 17 49 _ _ (of_decide_eq_true (by rfl)) (by rfl) (by rfl) (by rfl)) (known_core 12 51 _ _ (of_decide_eq_true (by rfl)) (by rfl) (by rfl) (by rfl)) (fun ρ w kx ky hs => xor32 _ _ (turn_lt (hx) _) (Nat.lt_of_le_of_lt (Nat.div_le_self _ _) (hx)) kx ky)
            · exact core_held2C _ _ _ _ _ _ _ _ _ _ (by rfl) (by rfl) (known_core 9 46 _ _ (of_decide_eq_true (by rfl)) (by rfl) (by rfl) (by rfl)) (known_core 18 52 _ _ (of_decide_eq_true (by rfl)) (by rfl) (by rfl) (by rfl)) (fun ρ w kx ky hs => add32 _ _ kx ky)
            · exact core_pureAs _ (by rfl)
            · exact core_pureAs _ (by rfl)
            · exact core_held2C _ _ _ _ _ _ _ _ _ _ (by rfl) (by rfl) (known_core 21 56 _ _ (of_decide_eq_true (by rfl)) (by rfl) (by rfl) (by rfl)) (known_core 15 58 _ _ (of_decide_eq_true (by rfl)) (by rfl) (by rfl) (by rfl)) (fun ρ w kx ky hs => xor32 _ _ (turn_lt (hy) _) (Nat.lt_of_le_of_lt (Nat.div_le_self _ _) (hy)) kx ky)
            · exact core_held2C _ _ _ _ _ _ _ _ _ _ (by rfl) (by rfl) (known_core 19 53 _ _ (of_decide_eq_true (by rfl)) (by rfl) (by rfl) (by rfl)) (known_core 22 59 _ _ (of_decide_eq_true (by rfl)) (by rfl) (by rfl) (by rfl)) (fun ρ w kx ky hs => add32 _ _ kx ky)
            · exact core_held2C _ _ _ _ _ _ _ _ _ _ (by rfl) (by rfl) (known_old 3 _ (of_decide_eq_true (by rfl)) (by rfl)) (known_core 0 37 _ _ (of_decide_eq_true (by rfl)) (by rfl) (by rfl) (by rfl)) (fun ρ w kx ky hs => at64 g3 (l.length) (by omega) kx ky)
          · refine all_cons ?_ (all_cons ?_ (all_cons ?_ (all_cons ?_ (all_cons ?_ (all_cons ?_ (all_cons ?_ (all_cons ?_ (all_cons ?_ (all_cons ?_ (all_cons ?_ (all_cons ?_ (all_cons ?_ (all_cons ?_ (all_cons ?_ (all_cons ?_ (all_cons ?_ (all_cons ?_ (all_cons ?_ (all_cons ?_ (all_cons ?_ (all_cons ?_ (all_cons ?_ (all_cons ?_ (all_cons ?_ (all_nil)))))))))))))))))))))))))
            · exact core_stepAs _ (by rfl)
            · exact core_stepAs _ (by rfl)
            · exact core_stepAs _ (by rfl)
            · exact core_stepAs _ (by rfl)
            · exact core_stepAs _ (by rfl)
            · exact core_stepAs _ (by rfl)
            · exact core_stepAs _ (by rfl)
            · exact core_stepAs _ (by rfl)
            · exact core_stepAs _ (by rfl)
            · exact core_stepAs _ (by rfl)
            · exact core_stepAs _ (by rfl)
            · exact core_stepAs _ (by rfl)
            · exact core_stepAs _ (by rfl)
            · exact core_stepAs _ (by rfl)
            · exact core_stepAs _ (by rfl)
            · exact core_stepAs _ (by rfl)
            · exact fun _ => core_build _ _ _ _ _ _ _ _ _ _ (by rfl) (by rfl) (Nat.le_refl _) (fun ρ w hc => build2 7 18 hc)
            · exact fun _ => core_callS _ 53 _ _ _ 48 _ _ _ _ _ _ _ 16 _ _ _ _ (by rfl) Tryd.func53 (by kernel_rfl) (by rfl) (by rfl) (known_core 10 47 _ _ (of_decide_eq_true (by rfl)) (by rfl) (by rfl) (by rfl)) (of_decide_eq_true (by rfl)) (by rfl) (by rfl) (by rfl) (fun w g h => turned_ok _ _ 2 2 [7, 18] w (hx) (by decide) (At.rdI h [7, 18]) (by decide))
            · exact core_stepAs _ (by rfl)
            · exact core_stepAs _ (by rfl)
            · exact fun _ => core_build _ _ _ _ _ _ _ _ _ _ (by rfl) (by rfl) (Nat.le_refl _) (fun ρ w hc => build2 17 19 hc)
            · exact fun _ => core_callS _ 53 _ _ _ 55 _ _ _ _ _ _ _ 20 _ _ _ _ (by rfl) Tryd.func53 (by kernel_rfl) (by rfl) (by rfl) (known_core 13 54 _ _ (of_decide_eq_true (by rfl)) (by rfl) (by rfl) (by rfl)) (of_decide_eq_true (by rfl)) (by rfl) (by rfl) (by rfl) (fun w g h => turned_ok _ _ 2 2 [17, 19] w (hy) (by decide) (At.rdI h [17, 19]) (by decide))
            · exact core_stepAs _ (by rfl)
            · exact core_stepAs _ (by rfl)
            · exact core_stepAs _ (by rfl)
          intro vs y2 hc
          obtain ⟨vv0, vv1, vv2, vv3, vv4, vv5, vv6, vv7, vv8, vv9, vv10, vv11, vv12, vv13, vv14, vv15, vv16, vv17, vv18, vv19, vv20, vv21, vv22, vv23, vv24, rfl⟩ := len25 vs hc.lv
          have qq0 : vv0 = .int .i64 (l.length : Nat) := by obtain ⟨xx, hx, hy⟩ := hc.ok 0 _ rfl rfl; exact (Option.some.inj (show some vv0 = some xx from hx)).trans hy
          have qq1 : vv1 = .int .i64 (l.length : Nat) := by obtain ⟨xx, hx, hy⟩ := hc.ok 1 _ rfl rfl; exact (Option.some.inj (show some vv1 = some xx from hx)).trans hy
          have qq2 : vv2 = .int .i64 ((l.length - 16) : Nat) := by obtain ⟨xx, hx, hy⟩ := hc.ok 2 _ rfl rfl; exact (Option.some.inj (show some vv2 = some xx from hx)).trans hy
          have qq3 : vv3 = .pointer (some ⟨g3, (l.length - 16), none⟩) := by obtain ⟨xx, hx, hy⟩ := hc.ok 3 _ rfl rfl; exact (Option.some.inj (show some vv3 = some xx from hx)).trans hy
          have qq4 : vv4 = .int .u32 (p : Nat) := by obtain ⟨xx, hx, hy⟩ := hc.ok 4 _ rfl rfl; exact (Option.some.inj (show some vv4 = some xx from hx)).trans hy
          have qq5 : vv5 = .int .i64 (l.length : Nat) := by obtain ⟨xx, hx, hy⟩ := hc.ok 5 _ rfl rfl; exact (Option.some.inj (show some vv5 = some xx from hx)).trans hy
          have qq6 : vv6 = .int .i64 ((l.length - 7) : Nat) := by obtain ⟨xx, hx, hy⟩ := hc.ok 6 _ rfl rfl; exact (Option.some.inj (show some vv6 = some xx from hx)).trans hy
          have qq7 : vv7 = .pointer (some ⟨g3, (l.length - 7), none⟩) := by obtain ⟨xx, hx, hy⟩ := hc.ok 7 _ rfl rfl; exact (Option.some.inj (show some vv7 = some xx from hx)).trans hy
          have qq8 : vv8 = .int .u32 (q : Nat) := by obtain ⟨xx, hx, hy⟩ := hc.ok 8 _ rfl rfl; exact (Option.some.inj (show some vv8 = some xx from hx)).trans hy
          have qq9 : vv9 = .int .u32 ((p + q) % 4294967296 : Nat) := by obtain ⟨xx, hx, hy⟩ := hc.ok 9 _ rfl rfl; exact (Option.some.inj (show some vv9 = some xx from hx)).trans hy
          have qq10 : vv10 = .int .u32 (x : Nat) := by obtain ⟨xx, hx, hy⟩ := hc.ok 10 _ rfl rfl; exact (Option.some.inj (show some vv10 = some xx from hx)).trans hy
          have qq11 : vv11 = .int .u32 (x : Nat) := by obtain ⟨xx, hx, hy⟩ := hc.ok 11 _ rfl rfl; exact (Option.some.inj (show some vv11 = some xx from hx)).trans hy
          have qq12 : vv12 = .int .u32 ((x) / 2 ^ 3 : Nat) := by obtain ⟨xx, hx, hy⟩ := hc.ok 12 _ rfl rfl; exact (Option.some.inj (show some vv12 = some xx from hx)).trans hy
          have qq13 : vv13 = .int .u32 (y : Nat) := by obtain ⟨xx, hx, hy⟩ := hc.ok 13 _ rfl rfl; exact (Option.some.inj (show some vv13 = some xx from hx)).trans hy
          have qq14 : vv14 = .int .u32 (y : Nat) := by obtain ⟨xx, hx, hy⟩ := hc.ok 14 _ rfl rfl; exact (Option.some.inj (show some vv14 = some xx from hx)).trans hy
          have qq15 : vv15 = .int .u32 ((y) / 2 ^ 10 : Nat) := by obtain ⟨xx, hx, hy⟩ := hc.ok 15 _ rfl rfl; exact (Option.some.inj (show some vv15 = some xx from hx)).trans hy
          obtain ⟨xx, hx, gg16, hv, _, _⟩ := hc.ok 16 _ rfl rfl
          have qq16 : vv16 = .slice (some ⟨gg16, 0, none⟩) 2 2 := (Option.some.inj (show some vv16 = some xx from hx)).trans hv
          clear hx hv
          have qq17 : vv17 = .int .u32 (turn x [7, 18] : Nat) := by obtain ⟨xx, hx, hy⟩ := hc.ok 17 _ rfl rfl; exact (Option.some.inj (show some vv17 = some xx from hx)).trans hy
          have qq18 : vv18 = .int .u32 ((turn x [7, 18]) ^^^ ((x) / 2 ^ 3) : Nat) := by obtain ⟨xx, hx, hy⟩ := hc.ok 18 _ rfl rfl; exact (Option.some.inj (show some vv18 = some xx from hx)).trans hy
          have qq19 : vv19 = .int .u32 ((((p + q) % 4294967296) + ((turn x [7, 18]) ^^^ ((x) / 2 ^ 3))) % 4294967296 : Nat) := by obtain ⟨xx, hx, hy⟩ := hc.ok 19 _ rfl rfl; exact (Option.some.inj (show some vv19 = some xx from hx)).trans hy
          obtain ⟨xx, hx, gg20, hv, _, _⟩ := hc.ok 20 _ rfl rfl
          have qq20 : vv20 = .slice (some ⟨gg20, 0, none⟩) 2 2 := (Option.some.inj (show some vv20 = some xx from hx)).trans hv
          clear hx hv
          have qq21 : vv21 = .int .u32 (turn y [17, 19] : Nat) := by obtain ⟨xx, hx, hy⟩ := hc.ok 21 _ rfl rfl; exact (Option.some.inj (show some vv21 = some xx from hx)).trans hy
          have qq22 : vv22 = .int .u32 ((turn y [17, 19]) ^^^ ((y) / 2 ^ 10) : Nat) := by obtain ⟨xx, hx, hy⟩ := hc.ok 22 _ rfl rfl; exact (Option.some.inj (show some vv22 = some xx from hx)).trans hy
          have qq23 : vv23 = .int .u32 ((((((p + q) % 4294967296) + ((turn x [7, 18]) ^^^ ((x) / 2 ^ 3))) % 4294967296) + ((turn y [17, 19]) ^^^ ((y) / 2 ^ 10))) % 4294967296 : Nat) := by obtain ⟨xx, hx, hy⟩ := hc.ok 23 _ rfl rfl; exact (Option.some.inj (show some vv23 = some xx from hx)).trans hy
          have qq24 : vv24 = .pointer (some ⟨g3, l.length, none⟩) := by obtain ⟨xx, hx, hy⟩ := hc.ok 24 _ rfl rfl; exact (Option.some.inj (show some vv24 = some xx from hx)).trans hy
          have BZ := hc.bel
          clear hc
          subst qq0 qq1 qq2 qq3 qq4 qq5 qq6 qq7 qq8 qq9 qq10 qq11 qq12 qq13 qq14 qq15 qq16 qq17 qq18 qq19 qq20 qq21 qq22 qq23 qq24
          simp only [List.map_cons, List.map_nil, over, Act.put, List.setIfInBounds_toArray, List.set_cons_zero, List.set_cons_succ]
          refine store_cell (i := 25) _ _ _ _ _ _ g3 l.length (.int .u32 ((((((p + q) % 4294967296) + ((turn x [7, 18]) ^^^ ((x) / 2 ^ 3))) % 4294967296) + ((turn y [17, 19]) ^^^ ((y) / 2 ^ 10))) % 4294967296 : Nat)) (by kernel_rfl) (by rfl) (by rfl) (by rfl) (fun ρ kx ky => store32 _ _ _ _ kx ky (cell_on BZ OLD) (FRZ _ BZ)) (Same.set (Same.of BZ) _) ?_
          refine wpAnyH_done (by kernel_rfl) ?_ _
          refine NoPanic.normal ?_
          have Q3 := Lib.hid (Q3.out.on BZ)
          have Q1 := Lib.hid (Q1.out.on BZ)
          have Q2 := Lib.hid (Q2.out.on BZ)
          have QB := Lib.hid (bel_tr QB.out BZ)
          rw [← NXT.out]
          clear BZ F16 F7 F2 F15 OLD NXT
          obtain ⟨nv, NV0⟩ : ∃ nv, nextw l = nv := ⟨_, rfl⟩
          have NV := Lib.hid NV0
          rw [NV0]
          clear NV0
          go_wp2
          go_roundw
          case rel =>
            refine ⟨l ++ [nv], by simp; omega, by simp; omega, ?_, by simp, ?_, Q1.out.far (p := ⟨g3, l.length, none⟩) (fun e => D12 e.symm) _, Q2.out.far (p := ⟨g3, l.length, none⟩) (fun e => D13 e.symm) _, QB.out.setCell E3 _⟩
            · rw [List.length_append, List.length_singleton, show l.length + 1 - 16 = (l.length - 16) + 1 by omega, ext, ← HLE.out, NV.out]
            · have h := Q3.out.set l.length (.int .u32 (nv : Nat))
              rw [fill_set l (64 - l.length) _ (by omega) (by omega), show 64 - l.length - 1 = 64 - (l ++ [nv]).length by simp; omega] at h
              exact h
          case measure => simp [intOf]; omega
        · have e64 : l.length = 64 := by omega
          have hs64 : Hid (l = sched B) := Lib.hid (by rw [hle, e64]; rfl)
          rw [e64, Nat.sub_self, List.replicate_zero, List.append_nil] at P3
          rw [e64]
          have hls : (hs l).length = 64 := by rw [hs_len, e64]
          have hL : Hid ((hs l).length = 64) := Lib.hid hls
          obtain ⟨xs, hxs⟩ : ∃ xs, hs l = xs := ⟨_, rfl⟩
          have ho := hs_one l
          rw [hxs] at P3 hL ho
          have ho := Lib.hid ho
          have HXS := Lib.hid hxs
          have zz : Hid ((hs (List.replicate 64 0)).length = 64) := Lib.hid (by simp [hs_len])
          generalize hs (List.replicate 64 0) = zs at *
          have LG := P3.lt
          clear hle hls hxs e64
          have Q3 := Lib.hid P3
          have Q2 := Lib.hid P2
          have QB := Lib.hid PB
          clear P1 P2 P3 PB
          go_wp2_with (first | (refine law_load (ty := 88) g3 0 xs _ rfl Q3.out.all under_words rfl (by rw [size_words, hL.out]) ?_) | (refine law_store (ty := 88) g2 0 _ _ xs rfl rfl Q2.out (by simp [hL.out, zz.out]) (by rw [size_words, hL.out]) ho.out ?_; intro w5 P5))
          have L5 := P5.at_
          rw [put_all _ _ (by rw [hL.out, zz.out])] at L5
          refine ret_cell (ty := 88) rfl g2 _ xs _ rfl L5 under_words rfl (by rw [size_words, hL.out]) rfl ⟨by rw [← HXS.out, hs64.out], QB.out.grown P5.grown (by have := QB.out.size; omega) (by simp; omega)⟩
end Go.Proofs.YtkmjfaaelkmnkaaDoor
