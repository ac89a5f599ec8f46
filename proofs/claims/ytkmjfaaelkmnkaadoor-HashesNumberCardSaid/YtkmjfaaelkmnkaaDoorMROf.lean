/-
  The document's own Of (balefireref05).
-/
import Derived.Laws.AppendOwnNone
import Derived.Test.YtkmjfaaelkmnkaaDoorMBlock
import Derived.Test.YtkmjfaaelkmnkaaDoorMCore3
import Derived.Test.YtkmjfaaelkmnkaaDoorMNone
import Derived.Test.YtkmjfaaelkmnkaaDoorMWrite
namespace Go.Proofs.YtkmjfaaelkmnkaaDoor
open Go.RowKit
set_option linter.unusedSimpArgs false
set_option linter.unusedVariables false

theorem build_table (a : Act) (w : World) (dst : Option Tmp) (ty : TypeId) (pos : String) (after : Array Edge) (gd : Option (Nat × Bool)) :
    (execOp a.eval ⟨dst, .buildSlice 99 64 #[(0, .const (.int .u32 1116352408)), (1, .const (.int .u32 1899447441)), (2, .const (.int .u32 3049323471)), (3, .const (.int .u32 3921009573)), (4, .const (.int .u32 961987163)), (5, .const (.int .u32 1508970993)), (6, .const (.int .u32 2453635748)), (7, .const (.int .u32 2870763221)), (8, .const (.int .u32 3624381080)), (9, .const (.int .u32 310598401)), (10, .const (.int .u32 607225278)), (11, .const (.int .u32 1426881987)), (12, .const (.int .u32 1925078388)), (13, .const (.int .u32 2162078206)), (14, .const (.int .u32 2614888103)), (15, .const (.int .u32 3248222580)), (16, .const (.int .u32 3835390401)), (17, .const (.int .u32 4022224774)), (18, .const (.int .u32 264347078)), (19, .const (.int .u32 604807628)), (20, .const (.int .u32 770255983)), (21, .const (.int .u32 1249150122)), (22, .const (.int .u32 1555081692)), (23, .const (.int .u32 1996064986)), (24, .const (.int .u32 2554220882)), (25, .const (.int .u32 2821834349)), (26, .const (.int .u32 2952996808)), (27, .const (.int .u32 3210313671)), (28, .const (.int .u32 3336571891)), (29, .const (.int .u32 3584528711)), (30, .const (.int .u32 113926993)), (31, .const (.int .u32 338241895)), (32, .const (.int .u32 666307205)), (33, .const (.int .u32 773529912)), (34, .const (.int .u32 1294757372)), (35, .const (.int .u32 1396182291)), (36, .const (.int .u32 1695183700)), (37, .const (.int .u32 1986661051)), (38, .const (.int .u32 2177026350)), (39, .const (.int .u32 2456956037)), (40, .const (.int .u32 2730485921)), (41, .const (.int .u32 2820302411)), (42, .const (.int .u32 3259730800)), (43, .const (.int .u32 3345764771)), (44, .const (.int .u32 3516065817)), (45, .const (.int .u32 3600352804)), (46, .const (.int .u32 4094571909)), (47, .const (.int .u32 275423344)), (48, .const (.int .u32 430227734)), (49, .const (.int .u32 506948616)), (50, .const (.int .u32 659060556)), (51, .const (.int .u32 883997877)), (52, .const (.int .u32 958139571)), (53, .const (.int .u32 1322822218)), (54, .const (.int .u32 1537002063)), (55, .const (.int .u32 1747873779)), (56, .const (.int .u32 1955562222)), (57, .const (.int .u32 2024104815)), (58, .const (.int .u32 2227730452)), (59, .const (.int .u32 2361852424)), (60, .const (.int .u32 2428436474)), (61, .const (.int .u32 2756734187)), (62, .const (.int .u32 3204031479)), (63, .const (.int .u32 3329325298))], ty, pos, after, gd⟩).run Tryd.prog w = .ok (.value (.slice (some ⟨w.heap.size, 0, none⟩) 64 64)) (w.alloc (.cells (hs cubes).toArray 62)) := by kernel_rfl
theorem law_table {ops : Array Oper} {Q : Exit → Act → World → Prop} {rest : List Oper} {a : Act} {w : World} {d : Tmp} {ty : TypeId} {pos : String} {after : Array Edge}
    (h : ∀ w', New w w' 62 (hs cubes).toArray → wpList Tryd.prog ops Q rest (a.put (some d) (.slice (some ⟨w.heap.size, 0, none⟩) 64 64)) w') : wpList Tryd.prog ops Q (⟨some d, .buildSlice 99 64 #[(0, .const (.int .u32 1116352408)), (1, .const (.int .u32 1899447441)), (2, .const (.int .u32 3049323471)), (3, .const (.int .u32 3921009573)), (4, .const (.int .u32 961987163)), (5, .const (.int .u32 1508970993)), (6, .const (.int .u32 2453635748)), (7, .const (.int .u32 2870763221)), (8, .const (.int .u32 3624381080)), (9, .const (.int .u32 310598401)), (10, .const (.int .u32 607225278)), (11, .const (.int .u32 1426881987)), (12, .const (.int .u32 1925078388)), (13, .const (.int .u32 2162078206)), (14, .const (.int .u32 2614888103)), (15, .const (.int .u32 3248222580)), (16, .const (.int .u32 3835390401)), (17, .const (.int .u32 4022224774)), (18, .const (.int .u32 264347078)), (19, .const (.int .u32 604807628)), (20, .const (.int .u32 770255983)), (21, .const (.int .u32 1249150122)), (22, .const (.int .u32 1555081692)), (23, .const (.int .u32 1996064986)), (24, .const (.int .u32 2554220882)), (25, .const (.int .u32 2821834349)), (26, .const (.int .u32 2952996808)), (27, .const (.int .u32 3210313671)), (28, .const (.int .u32 3336571891)), (29, .const (.int .u32 3584528711)), (30, .const (.int .u32 113926993)), (31, .const (.int .u32 338241895)), (32, .const (.int .u32 666307205)), (33, .const (.int .u32 773529912)), (34, .const (.int .u32 1294757372)), (35, .const (.int .u32 1396182291)), (36, .const (.int .u32 1695183700)), (37, .const (.int .u32 1986661051)), (38, .const (.int .u32 2177026350)), (39, .const (.int .u32 2456956037)), (40, .const (.int .u32 2730485921)), (41, .const (.int .u32 2820302411)), (42, .const (.int .u32 3259730800)), (43, .const (.int .u32 3345764771)), (44, .const (.int .u32 3516065817)), (45, .const (.int .u32 3600352804)), (46, .const (.int .u32 4094571909)), (47, .const (.int .u32 275423344)), (48, .const (.int .u32 430227734)), (49, .const (.int .u32 506948616)), (50, .const (.int .u32 659060556)), (51, .const (.int .u32 883997877)), (52, .const (.int .u32 958139571)), (53, .const (.int .u32 1322822218)), (54, .const (.int .u32 1537002063)), (55, .const (.int .u32 1747873779)), (56, .const (.int .u32 1955562222)), (57, .const (.int .u32 2024104815)), (58, .const (.int .u32 2227730452)), (59, .const (.int .u32 2361852424)), (60, .const (.int .u32 2428436474)), (61, .const (.int .u32 2756734187)), (62, .const (.int .u32 3204031479)), (63, .const (.int .u32 3329325298))], ty, pos, after, none⟩ :: rest) a w :=
  law_value rfl (build_table _ _ _ _ _ _ _) (h _ (New.mk' _ _ _))
theorem table_ok (w : World) : Calls Tryd.prog 63 #[] w fun e w' => e = .returned (.slice (some ⟨w.heap.size, 0, none⟩) 64 64) ∧ New w w' 62 (hs cubes).toArray := by
  go_enter Tryd.func63, Tryd.ntmps63
  go_wp2_with (refine law_table ?_; intro w1 N1)
  go_ret
  exact ⟨rfl, N1⟩
theorem zeros_step (l : List Nat) (k : Nat) : bs (l ++ 128 :: List.replicate k 0) ++ [Value.int .u8 0] = bs (l ++ 128 :: List.replicate (k + 1) 0) := by
  rw [show l ++ 128 :: List.replicate (k + 1) 0 = (l ++ 128 :: List.replicate k 0) ++ [0] by rw [List.replicate_succ']; simp, bs_append (l ++ 128 :: List.replicate k 0)]
  rfl
theorem sliceLH (g n c lo : Nat) (h1 : lo + 64 ≤ n) (h2 : n ≤ c) (h3 : c ≤ 9223372036854775807) {dst : Option Tmp} {ty : TypeId} {pos : String} {after : Array Edge} {gd : Option (Nat × Bool)} {x y z : Operand} {ρ : Operand → Value} {w : World}
    (hx : ρ x = .slice (some ⟨g, 0, none⟩) n c) (hy : ρ y = .int .i64 (lo : Nat)) (hz : ρ z = .int .i64 (lo + 64 : Nat)) :
    (execOp ρ ⟨dst, .slice 22 x (some y) (some z) none, ty, pos, after, gd⟩).run Tryd.prog w = .ok (.value (.slice (some ⟨g, lo, none⟩) 64 (c - lo))) w := by
  have a1 : (lo : Int) + 64 ≤ (c : Int) := by omega
  have a2 : (lo : Int) ≤ (lo : Int) + 64 := by omega
  have a3 : ((lo : Int) + 64 - (lo : Int)).toNat = 64 := by omega
  have a4 : ((c : Int) - (lo : Int)).toNat = c - lo := by omega
  have a5 : ¬ c = lo := by omega
  have a6 : ¬ c ≤ lo := by omega
  have a7 : (0 : Int) ≤ (lo : Int) + 64 := by omega
  have a8 : ((lo : Int) + 64).toNat = lo + 64 := by omega
  simp [execOp, hx, hy, hz, go_sem, a1, a2, a3, a4, a5, a6, a7, a8]
theorem flat_at : ∀ (l : List Nat) (i : Nat), i < 4 * l.length → (l.flatMap (be 4)).getD i 0 = l.getD (i / 4) 0 / 2 ^ (24 - 8 * (i % 4)) % 256
  | [], i, h => by simp at h
  | x :: l, i, h => by
    rw [List.flatMap_cons]
    by_cases hi : i < 4
    · rw [List.getD_eq_getElem?_getD, List.getElem?_append_left (by rw [be_len]; exact hi), show i / 4 = 0 by omega, show i % 4 = i by omega]
      simp only [be, List.getElem?_map, List.getElem?_range hi, Option.map_some, Option.getD_some, List.getD_cons_zero]
      rw [show 8 * (4 - 1 - i) = 24 - 8 * i by omega]
    · rw [List.getD_eq_getElem?_getD, List.getElem?_append_right (by rw [be_len]; omega), be_len, ← List.getD_eq_getElem?_getD, flat_at l (i - 4) (by simp at h; omega), show i / 4 = (i - 4) / 4 + 1 by omega, List.getD_cons_succ, show (i - 4) % 4 = i % 4 by omega]
theorem fill_set8 (l : List Nat) (i : Nat) (hl : l.length = 32) (hi : i < 32) : (bs (l.take i ++ List.replicate (32 - i) 0)).toArray.setIfInBounds i (.int .u8 (l.getD i 0 : Nat)) = (bs (l.take (i + 1) ++ List.replicate (32 - (i + 1)) 0)).toArray := by
  rw [List.setIfInBounds_toArray, bs_set]
  congr 2
  obtain ⟨k, hk⟩ : ∃ k, 32 - i = k + 1 := ⟨31 - i, by omega⟩
  rw [hk, List.replicate_succ, show 32 - (i + 1) = k by omega]
  have e : (l.take i).length = i := by rw [List.length_take]; omega
  have h : (l.take i ++ 0 :: List.replicate k 0).set i (l.getD i 0) = l.take i ++ l.getD i 0 :: List.replicate k 0 := by
    have := List.set_append_right (s := l.take i) (t := 0 :: List.replicate k 0) i (l.getD i 0) (by omega)
    rw [this, e, Nat.sub_self, List.set_cons_zero]
  rw [h, List.take_succ_eq_append_getElem (by omega), List.getD_eq_getElem?_getD, List.getElem?_eq_getElem (by omega)]
  simp only [Option.getD_some, List.append_assoc, List.cons_append, List.nil_append]
theorem pad_is (n k : Nat) (h : k ≤ noughts n) : (n + 1 + k) % 64 = 56 ↔ k = noughts n := by unfold noughts at *; omega

set_option maxRecDepth 100000 in
set_option maxHeartbeats 4000000 in
theorem rof_ok (A : Option Addr) (n c : Nat) (l : List Nat) (w : World) (hr : Rd w A n (bs l)) (hnil : A = none → n = 0 ∧ c = 0) (hb : ∀ y ∈ l, y < 256) (hn : n ≤ 1048576) :
    Calls Tryd.prog 44 #[.slice A n c] w fun e w' => e = .returned (.agg (bs (sha l)).toArray) ∧ Below w.heap.size w w' := by
  obtain ⟨i0, hi, hz0, hz1, hz2⟩ := info_parts Tryd.info5
  have HB := Lib.hid hb
  have hln : l.length = n := by have := hr.1; rwa [bs_len] at this
  have HLN := Lib.hid hln
  have HR := Lib.hid hr
  have HN := Lib.hid hnil
  obtain ⟨q, hq⟩ : ∃ q, noughts n = q := ⟨_, rfl⟩
  have hql : q < 64 := by rw [← hq]; exact Nat.mod_lt _ (by decide)
  have HQ := Lib.hid hq
  clear hb hln hr hnil hq
  go_enter Tryd.func44, Tryd.ntmps44
  go_wp2_with (first | (refine law_alloc (d := 2) (ty := 28) _ zero_hash ?_; intro w1 N1; have H1 := Lib.hid N1; clear N1) | (at_builtin; refine wpList_append_rd _ rfl (.const (.slice none 0 0)) (.tmp 11) 22 rfl w1.heap.size 5 i0 (.int .u8 0) 1 Tryd.underlying22 hi hz0 hz1 hz2 rfl (.slice none 0 0) 0 [] rfl (World.ownsRow_nil _ _ _ _) A n c _ rfl HN.out (HR.out.below H1.out.bel) (bs_one _) (by unfold maxLen; omega) (by omega) (Nat.le_refl _) ?_; intro v2 w2 hown2 hgrow2; rw [Nat.zero_add, List.nil_append] at hown2; have O2 := Lib.hid hown2; have G2 := Lib.hid hgrow2; clear hown2 hgrow2) | (at_builtin; refine wpList_one _ rfl (.tmp 12) (.tmp 13) 22 rfl w1.heap.size 5 i0 (.int .u8 0) 1 Tryd.underlying22 hi hz0 hz1 hz2 rfl v2 n _ rfl (O2.out.alloc _) ⟨w2.heap.size, 0, none⟩ 1 (.int .u8 128) rfl ((At.new w2 5 #[_]).cell 0) rfl (by omega) (by unfold maxLen; omega) (by have := G2.out.size; simp; omega) ?_; intro v3 w3 hown3 hgrow3 _; have O3 := Lib.hid hown3; have G3 := Lib.hid hgrow3; clear hown3 hgrow3))
  have S1 := Lib.hid H1.out.size
  have B2 : Below w1.heap.size w1 w2 := (Below.refl _ _).grown G2.out (Nat.le_refl _) (fun g hg => by simp [Value.ownBlock] at hg)
  have B3 : Hid (Below w1.heap.size w1 w3) := Lib.hid ((B2.alloc B2.size _).grown G3.out (by have := B2.size; simp; omega) (fun g hg => (O2.out.lt g hg).1))
  have A1 := Lib.hid H1.out.at_
  have BW := Lib.hid H1.out.bel
  have O4 : Hid (w3.ownsRow w1.heap.size 5 1 v3 (n + 1 + 0) (bs (l ++ (128 :: List.replicate 0 0)))) := Lib.hid (by have h := O3.out; rw [show bs l ++ [Value.int .u8 128] = bs (l ++ (128 :: List.replicate 0 0)) by rw [bs_append]; rfl] at h; exact h)
  clear B2 O2 G2 O3 G3 H1
  go_loopw [3] (fun v wr => ∃ k : Nat, k ≤ q ∧ wr.ownsRow w1.heap.size 5 1 v (n + 1 + k) (bs (l ++ (128 :: List.replicate k 0))) ∧ Below w1.heap.size w1 wr) (fun v _ => match v with | .slice _ m _ => n + 1 + q - m | _ => 0)
  case atStart => exact ⟨0, by omega, O4.out, B3.out⟩
  case round =>
    obtain ⟨k, hk, hown, hbr⟩ := hrel
    obtain ⟨V, cv, rfl, _, _⟩ := own_form hown
    clear B3 O4
    have hiff := pad_is n k (by rw [HQ.out]; exact hk)
    rw [HQ.out] at hiff
    obtain ⟨r, hr⟩ : ∃ r, (n + 1 + k) % 64 = r := ⟨_, rfl⟩
    rw [hr] at hiff
    have TM : Int.tmod ((n : Int) + 1 + (k : Int)) 64 = (r : Int) := by rw [← hr]; exact Int.ofNat_tmod (n + 1 + k) 64
    have HIF := Lib.hid hiff
    have HBR := Lib.hid hbr
    have HOW := Lib.hid hown
    clear hr hiff hbr hown
    by_cases hrz : r = 56
    · subst hrz
      obtain rfl : k = q := HIF.out.1 rfl
      clear hk HIF
      obtain ⟨X, hX⟩ : ∃ X, 8 * n = X := ⟨_, rfl⟩
      have HX := Lib.hid hX
      have cv1 : IntKind.u64.wrap (n : Int) = (n : Int) := by rw [IntKind.wrap_u64]; omega
      have m8 : IntKind.u64.wrap (8 * (n : Int)) = (X : Int) := by rw [IntKind.wrap_u64]; omega
      clear hX
      have TL : Hid (tail n = (128 :: List.replicate k 0) ++ be 8 X) := Lib.hid (by rw [tail, HQ.out, HX.out])
      have O5 : Hid (wr.ownsRow w1.heap.size 5 1 (.slice V (n + 1 + k) cv) (n + 1 + k + 0) (bs (l ++ ((128 :: List.replicate k 0) ++ (be 8 X).take 0)))) := Lib.hid (by have h := HOW.out; rw [List.take_zero, List.append_nil]; exact h)
      clear HOW
      go_wp2
      go_loopw [3, 5] (fun v s' wr => ∃ j : Nat, j ≤ 8 ∧ s' = .int .i64 j ∧ wr.ownsRow w1.heap.size 5 1 v (n + 1 + k + j) (bs (l ++ ((128 :: List.replicate k 0) ++ (be 8 X).take j))) ∧ Below w1.heap.size w1 wr) (fun _ s' _ => 8 - (intOf s').toNat)
      case atStart => exact ⟨0, by omega, rfl, O5.out, HBR.out⟩
      case round =>
        obtain ⟨j, hj, rfl, hown, hbr⟩ := hrel
        obtain ⟨V, cv, rfl, _, _⟩ := own_form hown
        have HBR := Lib.hid hbr
        have HOW := Lib.hid hown
        clear O5 hbr hown TM
        by_cases hlt : j < 8
        · have hlt' : (j : Int) < 8 := by omega
          have hbt := Lib.hid (byte_step l (128 :: List.replicate k 0) 8 X j hlt)
          obtain ⟨e, he⟩ : ∃ e, 8 * (8 - 1 - j) = e := ⟨_, rfl⟩
          rw [he] at hbt
          have s1 : (56 : Int) - 8 * (j : Int) = (e : Int) := by omega
          have p1 : min e 64 = e := by omega
          clear he
          go_wp2_with (at_builtin; refine wpList_one _ rfl (.tmp 30) (.tmp 37) 22 rfl w1.heap.size 5 i0 (.int .u8 0) 1 Tryd.underlying22 hi hz0 hz1 hz2 rfl _ (n + 1 + k + j) _ rfl (HOW.out.alloc _) ⟨wr.heap.size, 0, none⟩ 1 (.int .u8 ((X : Int) / 2 ^ e % 256)) rfl ((At.new wr 5 #[_]).cell 0) rfl (by omega) (by unfold maxLen; omega) (by have := HBR.out.size; simp; omega) ?_; intro v5 w5 hown5 hgrow5 _)
          have hbr5 : Below w1.heap.size w1 w5 := (HBR.out.alloc HBR.out.size _).grown hgrow5 (by have := HBR.out.size; simp; omega) (fun g hg => (HOW.out.lt g hg).1)
          rw [hbt.out] at hown5
          go_roundw
          case rel => exact ⟨j + 1, by omega, by go_num, hown5, hbr5⟩
          case measure => simp [intOf]; omega
        · obtain rfl : j = 8 := by omega
          have hlt' : ¬ ((8 : Nat) : Int) < 8 := by omega
          have hown := HOW.out
          rw [List.take_of_length_le (by rw [be_len]; exact Nat.le_refl _), ← TL.out] at hown
          obtain ⟨T, hT⟩ : ∃ T, n + 1 + k + 8 = T := ⟨_, rfl⟩
          have HT := Lib.hid hT
          rw [hT] at hown ⊢
          obtain ⟨gv, hV⟩ : ∃ gv, V = some ⟨gv, 0, none⟩ := by
            rcases own_cases hown with ⟨e, h0, _⟩ | ⟨g, c', e⟩
            · omega
            · injection e with e1 _ _; exact ⟨g, e1⟩
          subst hV
          have HVL := Lib.hid (hown.lt gv rfl)
          have RV := Lib.hid (Rd.own hown)
          have AG := Lib.hid (A1.out.on HBR.out)
          have BG := Lib.hid (bel_tr BW.out HBR.out)
          have c1 : T ≤ cv := by omega
          have c2 : cv ≤ 9223372036854775807 := by unfold maxLen at *; omega
          clear HOW hown hj hlt
          have ZW := Lib.hid zero_w8
          have ZS : Hid ((hs (List.replicate 8 0)).length = 8) := Lib.hid rfl
          obtain ⟨zs, hzs⟩ : ∃ zs, hs (List.replicate 8 0) = zs := ⟨_, rfl⟩
          rw [hzs] at ZW ZS
          clear hzs

          clear hT
          have HTm : Hid (T % 64 = 0) := Lib.hid (by have h := whole n; rw [HQ.out] at h; have := HT.out; omega)
          go_wp2_with (first | (refine law_alloc (d := 6) (ty := 63) _ ZW.out ?_; intro w6 N6; have H6 := Lib.hid N6; clear N6; refine law_store (ty := 63) wr.heap.size 0 63 zs.toArray (hs init.list) rfl rfl H6.out.at_ (by rw [List.size_toArray, ZS.out]; exact Nat.le_refl 8) (by rw [size_w8]; rfl) (hs_one _) ?_; intro w7 P7; have H7 := Lib.hid P7; clear P7) | (go_at_call 63; refine (table_ok _).mono ?_; rintro e w8 ⟨rfl, N8⟩; have H8 := Lib.hid N8; clear N8))
          have b6 := H6.out.bel
          have p7 := H7.out.grown
          have b8 := H8.out.bel
          have a7 := H7.out.at_
          rw [put_all _ _ (by rw [ZS.out]; rfl)] at a7
          have s7 := H7.out.size
          have s6 := H6.out.size
          have hvl := HVL.out
          have hs1 := S1.out
          have hsz := BG.out.size
          obtain ⟨g6, hg6⟩ : ∃ x, wr.heap.size = x := ⟨_, rfl⟩
          obtain ⟨gk, hgk⟩ : ∃ x, w7.heap.size = x := ⟨_, rfl⟩
          obtain ⟨gr, hgr⟩ : ∃ x, w.heap.size = x := ⟨_, rfl⟩
          have HGR := Lib.hid hgr
          have ak := H8.out.at_
          rw [hg6] at a7 p7 ⊢
          rw [hgk] at ak ⊢
          rw [hgr] at AG ⊢
          have Dv6 : gv ≠ g6 := by omega
          have Dr6 : gr ≠ g6 := by have := AG.out.lt; omega
          have Dk6 : gk ≠ g6 := by omega
          have E6 : w.heap.size ≤ g6 := by omega
          have K6 := Lib.hid (a7.on b8)
          have KK := Lib.hid ak
          have KV : Hid (Rd w8 (some ⟨gv, 0, none⟩) T (bs (l ++ tail n))) := Lib.hid (((RV.out.below b6).grown (fun b o e => by injection e with e; injection e with e1 _; rw [← e1]; exact Dv6) p7).below b8)
          have KR := Lib.hid (((AG.out.on b6).grown p7 (by simpa using Dr6)).on b8)
          have KB : Hid (Below w.heap.size w w8) := Lib.hid (bel_tr ((bel_tr BG.out b6).grown p7 (by have := (bel_tr BG.out b6).size; omega) (by simp; omega)) b8)
          clear b6 p7 b8 a7 s7 s6 hvl hs1 hsz hg6 hgk hgr ak H6 H7 H8 ZS ZW HVL RV AG BG
          have HPB : Hid (∀ y ∈ l ++ tail n, y < 256) := Lib.hid (fun y hy => by
            rcases List.mem_append.1 hy with h | h
            · exact HB.out y h
            · exact tail_lt n y h)
          have HPL : Hid ((l ++ tail n).length = T) := Lib.hid (by rw [List.length_append, tail_len, HLN.out, HQ.out]; have := HT.out; omega)
          have HSHA : Hid (sha l = (run init (l ++ tail n) (T / 64)).list.flatMap (be 4)) := Lib.hid (by rw [sha, HLN.out, HQ.out, show n + (k + 9) = T by have := HT.out; omega])
          obtain ⟨pl, hpl⟩ : ∃ pl, l ++ tail n = pl := ⟨_, rfl⟩
          rw [hpl] at KV HPB HPL HSHA
          clear hpl TL HX
          go_loopw [8] (fun s' wr => ∃ m : Nat, 64 * m ≤ T ∧ s' = .int .i64 (64 * m : Nat) ∧ At wr g6 63 (hs (run init pl m).list).toArray ∧ At wr gk 62 (hs cubes).toArray ∧ Rd wr (some ⟨gv, 0, none⟩) T (bs pl) ∧ At wr gr 28 (bs (List.replicate 32 0)).toArray ∧ Below w.heap.size w wr) (fun s' _ => T - (intOf s').toNat)
          case atStart => exact ⟨0, by omega, rfl, K6.out, KK.out, KV.out, KR.out, KB.out⟩
          case round =>
            obtain ⟨m, hm, rfl, P6, PK, PV, PR, PB⟩ := hrel
            clear K6 KK KV KR KB
            by_cases hlt : 64 * m < T
            · have hm2 : 64 * m + 64 ≤ T := by have := HTm.out; omega
              have hlt' : ((64 * m : Nat) : Int) < (T : Int) := by omega
              have HOKs := run_ok init_ok pl m
              obtain ⟨so, hso⟩ : ∃ so, run init pl m = so := ⟨_, rfl⟩
              rw [hso] at P6 HOKs
              have HSO := Lib.hid hso
              obtain ⟨x8, hx8⟩ : ∃ x8, hs so.list = x8 := ⟨_, rfl⟩
              obtain ⟨y8, hy8⟩ : ∃ y8, hs (comp so ((pl.drop (64 * m)).take 64)).list = y8 := ⟨_, rfl⟩
              have blen : ((pl.drop (64 * m)).take 64).length = 64 := by rw [List.length_take, List.length_drop, HPL.out]; omega
              have bbyt : ∀ y ∈ (pl.drop (64 * m)).take 64, y < 256 := fun y hy => HPB.out y (List.mem_of_mem_drop (List.mem_of_mem_take hy))
              have TK : ∀ w, Below wr.heap.size wr w → Calls Tryd.prog 64 [.agg x8.toArray, .slice (some ⟨gv, 64 * m, none⟩) 64 (cv - 64 * m), .slice (some ⟨gk, 0, none⟩) 64 64].toArray w fun e w' => e = .returned (.agg y8.toArray) ∧ Below w.heap.size w w' := fun w hb => by
                rw [← hx8, ← hy8]
                refine block_ok so _ HOKs blen bbyt gv (64 * m) _ gk w ?_ (PK.on hb)
                have h := (PV.below hb).later hlt
                rw [bs_drop', Nat.zero_add] at h
                have h2 := h.take (show 64 ≤ T - 64 * m by omega)
                rw [bs_take'] at h2
                exact h2
              have RG : ∀ w, Below wr.heap.size wr w → w.rangeAt g6 0 x8 := fun w hb => by rw [← hx8]; exact (P6.on hb).all
              have L8 : Hid (x8.length = 8) := Lib.hid (by rw [← hx8]; rfl)
              have M8 : Hid (y8.length = 8) := Lib.hid (by rw [← hy8]; rfl)
              have O8 : Hid (∀ u ∈ y8, u.oneCell' = true) := Lib.hid (by rw [← hy8]; exact hs_one _)
              have HY8 := Lib.hid hy8
              rw [hx8] at P6
              have HAT := Lib.hid P6
              have QK := Lib.hid PK
              have QV := Lib.hid PV
              have QR := Lib.hid PR
              have QB := Lib.hid PB
              clear P6 PK PV PR PB hso hx8 hy8 blen bbyt HOKs
              go_wp2
              try simp only [List.append_eq, List.cons_append, List.nil_append]
              refine wp_region_noPanic ?_
              refine wp_region_held_drew (S := fun _ => True) (by kernel_rfl) (trivial) (fun _ => ?_)
              refine wpAnyH_cores (fuel := 1) (⟨1, 48, [], Kind.val (.slice (some ⟨gv, 0, none⟩) T cv), true⟩ :: ⟨2, 49, [0], Kind.val (.int .i64 ((64 * m) : Nat)), true⟩ :: ⟨3, 50, [1], Kind.val (.int .i64 ((64 * m) : Nat)), true⟩ :: ⟨4, 51, [2], Kind.val (.int .i64 ((64 * m + 64) : Nat)), true⟩ :: ⟨5, 52, [0, 1, 3], Kind.val (.slice (some ⟨gv, 64 * m, none⟩) 64 (cv - 64 * m)), true⟩ :: ⟨6, 53, [4], Kind.val (.slice (some ⟨gk, 0, none⟩) 64 64), true⟩ :: ⟨0, 47, [5], Kind.val (.agg x8.toArray), false⟩ :: ⟨7, 54, [4, 5, 6], Kind.val (.agg y8.toArray), false⟩ :: []) _ _ wr _ ?_ ?_ ?_ ?_ ?_ ?_ ?_ ?_ ?_ ?_ ?_
              · rfl
              · kernel_rfl
              · exact of_decide_eq_true (by kernel_rfl)
              · exact all_cons ⟨_, by rfl, by rfl⟩ (all_cons ⟨_, by rfl, by rfl⟩ (all_cons ⟨_, by rfl, by rfl⟩ (all_cons ⟨_, by rfl, by rfl⟩ (all_cons ⟨_, by rfl, by rfl⟩ (all_cons ⟨_, by rfl, by rfl⟩ (all_cons ⟨_, by rfl, by rfl⟩ (all_cons ⟨_, by rfl, by rfl⟩ (all_nil))))))))
              · exact fun _ _ => trivial
              · exact (Below.refl _ _).drew
              · kernel_rfl
              · exact fun _ _ _ _ _ h => h
              · refine all_cons ?_ (all_cons ?_ (all_cons ?_ (all_cons ?_ (all_cons ?_ (all_cons ?_ (all_cons ?_ (all_cons ?_ (all_nil))))))))
                · exact core_move _ _ _ _ _ _ (by rfl) (by rfl) (known_old 3 _ (of_decide_eq_true (by rfl)) (by rfl))
                · exact core_move _ _ _ _ _ _ (by rfl) (by rfl) (known_old 8 _ (of_decide_eq_true (by rfl)) (by rfl))
                · exact core_move _ _ _ _ _ _ (by rfl) (by rfl) (known_old 8 _ (of_decide_eq_true (by rfl)) (by rfl))
                · exact core_held2C _ _ _ _ _ _ _ _ _ _ (by rfl) (by rfl) (known_core 2 50 _ _ (of_decide_eq_true (by rfl)) (by rfl) (by rfl) (by rfl)) (known_const _) (fun ρ w kx ky hs => add64 ((64 * m)) (64) ((64 * m + 64)) (by omega) (by omega) kx ky)
                · exact core_held3C _ _ _ _ _ _ _ _ _ _ _ _ (by rfl) (by rfl) (known_core 0 48 _ _ (of_decide_eq_true (by rfl)) (by rfl) (by rfl) (by rfl)) (known_core 1 49 _ _ (of_decide_eq_true (by rfl)) (by rfl) (by rfl) (by rfl)) (known_core 3 51 _ _ (of_decide_eq_true (by rfl)) (by rfl) (by rfl) (by rfl)) (fun ρ w kx ky kz hs => sliceLH gv T cv (64 * m) (by omega) (by omega) (by omega) kx ky kz)
                · exact core_move _ _ _ _ _ _ (by rfl) (by rfl) (known_old 7 _ (of_decide_eq_true (by rfl)) (by rfl))
                · exact core_pureAs _ (by rfl)
                · exact core_pureAs _ (by rfl)
              · refine all_cons ?_ (all_cons ?_ (all_cons ?_ (all_cons ?_ (all_cons ?_ (all_cons ?_ (all_cons ?_ (all_cons ?_ (all_nil))))))))
                · exact core_stepAs _ (by rfl)
                · exact core_stepAs _ (by rfl)
                · exact core_stepAs _ (by rfl)
                · exact core_stepAs _ (by rfl)
                · exact core_stepAs _ (by rfl)
                · exact core_stepAs _ (by rfl)
                · exact fun _ => core_step _ _ _ _ _ _ _ _ (by rfl) (by rfl) (known_old 6 _ (of_decide_eq_true (by rfl)) (by rfl)) (fun ρ w kx hb => load_run _ g6 0 x8 _ kx (RG w hb) under_w8 rfl (by rw [size_w8, L8.out]))
                · exact fun _ => core_callB _ 64 _ _ [.tmp 47, .tmp 52, .tmp 53] _ _ _ _ _ _ (by rfl) Tryd.func64 (by kernel_rfl) (by rfl) (by rfl) (.cons (known_core 6 47 _ _ (of_decide_eq_true (by rfl)) (by rfl) (by rfl) (by rfl)) (.cons (known_core 4 52 _ _ (of_decide_eq_true (by rfl)) (by rfl) (by rfl) (by rfl)) (.cons (known_core 5 53 _ _ (of_decide_eq_true (by rfl)) (by rfl) (by rfl) (by rfl)) .nil))) TK
              intro vs y1 hc
              obtain ⟨vv0, vv1, vv2, vv3, vv4, vv5, vv6, vv7, rfl⟩ := len8 vs hc.lv
              have qq0 : vv0 = .slice (some ⟨gv, 0, none⟩) T cv := by obtain ⟨xx, hx, hy⟩ := hc.ok 0 _ rfl rfl; exact (Option.some.inj (show some vv0 = some xx from hx)).trans hy
              have qq1 : vv1 = .int .i64 ((64 * m) : Nat) := by obtain ⟨xx, hx, hy⟩ := hc.ok 1 _ rfl rfl; exact (Option.some.inj (show some vv1 = some xx from hx)).trans hy
              have qq2 : vv2 = .int .i64 ((64 * m) : Nat) := by obtain ⟨xx, hx, hy⟩ := hc.ok 2 _ rfl rfl; exact (Option.some.inj (show some vv2 = some xx from hx)).trans hy
              have qq3 : vv3 = .int .i64 ((64 * m + 64) : Nat) := by obtain ⟨xx, hx, hy⟩ := hc.ok 3 _ rfl rfl; exact (Option.some.inj (show some vv3 = some xx from hx)).trans hy
              have qq4 : vv4 = .slice (some ⟨gv, 64 * m, none⟩) 64 (cv - 64 * m) := by obtain ⟨xx, hx, hy⟩ := hc.ok 4 _ rfl rfl; exact (Option.some.inj (show some vv4 = some xx from hx)).trans hy
              have qq5 : vv5 = .slice (some ⟨gk, 0, none⟩) 64 64 := by obtain ⟨xx, hx, hy⟩ := hc.ok 5 _ rfl rfl; exact (Option.some.inj (show some vv5 = some xx from hx)).trans hy
              have qq6 : vv6 = .agg x8.toArray := by obtain ⟨xx, hx, hy⟩ := hc.ok 6 _ rfl rfl; exact (Option.some.inj (show some vv6 = some xx from hx)).trans hy
              have qq7 : vv7 = .agg y8.toArray := by obtain ⟨xx, hx, hy⟩ := hc.ok 7 _ rfl rfl; exact (Option.some.inj (show some vv7 = some xx from hx)).trans hy
              have BZ := hc.bel
              clear hc
              subst qq0 qq1 qq2 qq3 qq4 qq5 qq6 qq7
              simp only [List.map_cons, List.map_nil, over, Act.put, List.setIfInBounds_toArray, List.set_cons_zero, List.set_cons_succ]
              refine store_row (i := 8) _ _ _ _ _ _ g6 0 63 x8.toArray y8 (by kernel_rfl) (by rfl) (by rfl) (by rfl) (HAT.out.on BZ) (by rw [List.size_toArray, L8.out, M8.out]; omega) (by rw [size_w8, M8.out]) O8.out trivial ?_
              refine wpAnyH_done (by kernel_rfl) ?_ _
              refine NoPanic.normal ?_
              have A6 : At (y1.setCells g6 0 y8) g6 63 y8.toArray := by
                have h := (HAT.out.on BZ).sets y8 0
                rw [put_all _ _ (by rw [L8.out, M8.out])] at h
                exact h
              have GS : wr.grownBy (y1.setCells g6 0 y8) (some g6) := grown_sets _ _ _ (grown_of BZ)
              have N6 := Lib.hid A6
              have NK := Lib.hid (QK.out.grown GS (by simpa using Dk6))
              have NV := Lib.hid (QV.out.grown (fun b o e => by injection e with e; injection e with e1 _; rw [← e1]; exact Dv6) GS)
              have NR := Lib.hid (QR.out.grown GS (by simpa using Dr6))
              have NB : Hid (Below w.heap.size w (y1.setCells g6 0 y8)) := Lib.hid (QB.out.grown GS (by have := QB.out.size; omega) (by simp; omega))
              clear A6 GS BZ TK RG HAT QK QV QR QB
              generalize y1.setCells g6 0 y8 = w9 at *
              go_wp2
              go_roundw
              case rel => exact ⟨m + 1, by omega, by go_num, by rw [run, HSO.out, HY8.out]; exact N6.out, NK.out, NV.out, NR.out, NB.out⟩
              case measure => simp [intOf]; omega
            · have hTe : T = 64 * m := by omega
              have hlt' : ¬ ((64 * m : Nat) : Int) < (T : Int) := by omega
              have hdiv : T / 64 = m := by omega
              rw [hdiv] at HSHA
              have HOKs := run_ok init_ok pl m
              obtain ⟨so, hso⟩ : ∃ so, run init pl m = so := ⟨_, rfl⟩
              rw [hso] at P6 HSHA
              have HS8 : Hid (so.list.length = 8) := Lib.hid rfl
              have HSL : Hid ((sha l).length = 32) := Lib.hid (sha_len l)
              have M6 := Lib.hid P6
              have MR := Lib.hid PR
              have MB := Lib.hid PB
              clear P6 PK PV PR PB hso hTe hdiv HOKs hlt hm HPB HPL
              go_wp2_with (refine law_alloc (d := 9) (ty := 28) _ zero_hash ?_; intro w9 N9; have H9 := Lib.hid N9; clear N9)
              clear hlt'
              obtain ⟨g9, hg9⟩ : ∃ x, wr.heap.size = x := ⟨_, rfl⟩
              have D69 : g6 ≠ g9 := by have := M6.out.lt; omega
              have Dr9 : gr ≠ g9 := by have := MR.out.lt; omega
              have E9 : w.heap.size ≤ g9 := by have := MB.out.size; omega
              have a9 := H9.out.at_
              rw [hg9] at a9 ⊢
              have K9 := Lib.hid a9
              have K6 := Lib.hid (M6.out.on H9.out.bel)
              have KR := Lib.hid (MR.out.on H9.out.bel)
              have KB := Lib.hid (bel_tr MB.out H9.out.bel)
              clear a9 hg9 H9 M6 MR MB
              go_loopw [10] (fun s' wr => ∃ i : Nat, i ≤ 32 ∧ s' = .int .i64 i ∧ At wr g9 28 (bs ((sha l).take i ++ List.replicate (32 - i) 0)).toArray ∧ At wr g6 63 (hs so.list).toArray ∧ At wr gr 28 (bs (List.replicate 32 0)).toArray ∧ Below w.heap.size w wr) (fun s' _ => 32 - (intOf s').toNat)
              case atStart => exact ⟨0, by omega, rfl, by simpa using K9.out, K6.out, KR.out, KB.out⟩
              case round =>
                obtain ⟨i, hi, rfl, P9, P6, PR, PB⟩ := hrel
                clear K9 K6 KR KB
                by_cases hlt : i < 32
                · have hlt' : (i : Int) < 32 := by omega
                  have hat := flat_at so.list i (by rw [HS8.out]; omega)
                  rw [← HSHA.out] at hat
                  have hf := fill_set8 (sha l) i HSL.out hlt
                  rw [hat] at hf
                  obtain ⟨kq, hkq⟩ : ∃ kq, i / 4 = kq := ⟨_, rfl⟩
                  obtain ⟨kr, hkr⟩ : ∃ kr, i % 4 = kr := ⟨_, rfl⟩
                  rw [hkq, hkr] at hf
                  have hk8 : kq < 8 := by omega
                  have hr4 : kr < 4 := by omega
                  have TQ : Int.tdiv (i : Int) 4 = (kq : Int) := by rw [← hkq]; exact Int.ofNat_tdiv i 4
                  have TR : Int.tmod (i : Int) 4 = (kr : Int) := by rw [← hkr]; exact Int.ofNat_tmod i 4
                  have WQ : IntKind.i64.wrap (kq : Int) = (kq : Int) := by simp [IntKind.wrap, IntKind.bits, IntKind.signed]; omega
                  have WR : IntKind.i64.wrap (kr : Int) = (kr : Int) := by simp [IntKind.wrap, IntKind.bits, IntKind.signed]; omega
                  obtain ⟨e, he⟩ : ∃ e, 24 - 8 * kr = e := ⟨_, rfl⟩
                  have s1 : (24 : Int) - 8 * (kr : Int) = (e : Int) := by omega
                  have p1 : min e 32 = e := by omega
                  rw [he] at hf
                  have C := P6.word kq (by rw [HS8.out]; exact hk8)
                  obtain ⟨x, hx⟩ : ∃ x, so.list.getD kq 0 = x := ⟨_, rfl⟩
                  rw [hx] at C hf
                  have OLD := P9.byte i (by simp [HSL.out]; omega)
                  have FRZ := P9.frozen i
                  have LG := P9.lt
                  have HF := Lib.hid hf
                  have hq8 : (kq : Int) < 8 := by omega
                  have M9 := Lib.hid P9
                  have M6 := Lib.hid P6
                  have MR := Lib.hid PR
                  have MB := Lib.hid PB
                  clear P9 P6 PR PB hat hkq hkr he hx hf
                  go_wp2
                  go_roundw
                  case rel =>
                    refine ⟨i + 1, by omega, by go_num, ?_, M6.out.far (p := ⟨g9, i, none⟩) (fun e => D69 e.symm) _, MR.out.far (p := ⟨g9, i, none⟩) (fun e => Dr9 e.symm) _, MB.out.setCell E9 _⟩
                    have ec : ((x / 2 ^ e % 256 : Nat) : Int) = (x : Int) / 2 ^ e % 256 := by rw [Int.natCast_emod, Int.natCast_ediv, Int.natCast_pow]; rfl
                    have h := M9.out.set i (.int .u8 (x / 2 ^ e % 256 : Nat))
                    rw [HF.out, ec] at h
                    exact h
                  case measure => simp [intOf]; omega
                · obtain rfl : i = 32 := by omega
                  have hlt' : ¬ ((32 : Nat) : Int) < 32 := by omega
                  rw [List.take_of_length_le (by rw [HSL.out]; omega), Nat.sub_self, List.replicate_zero, List.append_nil] at P9
                  have ho : Hid (∀ u ∈ bs (sha l), u.oneCell' = true) := Lib.hid (bs_one _)
                  have hL : Hid ((bs (sha l)).length = 32) := Lib.hid (by rw [bs_len, HSL.out])
                  obtain ⟨ys, hys⟩ : ∃ ys, bs (sha l) = ys := ⟨_, rfl⟩
                  have HYS := Lib.hid hys
                  rw [hys] at P9 hL ho
                  have z32 : Hid ((bs (List.replicate 32 0)).length = 32) := Lib.hid (by simp [bs_len])
                  obtain ⟨zr, hzr⟩ : ∃ zr, bs (List.replicate 32 0) = zr := ⟨_, rfl⟩
                  rw [hzr] at PR z32
                  have M9 := Lib.hid P9
                  have MR := Lib.hid PR
                  have MB := Lib.hid PB
                  clear P9 P6 PR PB hys hzr hi hlt
                  go_wp2_with (first | (refine law_load (ty := 28) g9 0 ys _ rfl M9.out.all under_hash rfl (by rw [size_hash, hL.out]) ?_) | (refine law_store (ty := 28) gr 0 28 zr.toArray ys rfl rfl MR.out (by rw [List.size_toArray, hL.out, z32.out]; omega) (by rw [size_hash, hL.out]) ho.out ?_; intro w11 P11; have H11 := Lib.hid P11; clear P11))
                  have L11 := H11.out.at_
                  rw [put_all _ _ (by rw [hL.out, z32.out])] at L11
                  refine ret_cell (ty := 28) rfl gr _ ys _ rfl L11 under_hash rfl (by rw [size_hash, hL.out]) rfl ⟨by rw [HYS.out], MB.out.grown H11.out.grown (by have := MB.out.size; omega) (by have := HGR.out; simp; omega)⟩
    · have hr' : ¬ (r : Int) = 56 := by omega
      have hkq : k < q := by have := HIF.out; omega
      go_wp2_with (at_builtin; refine wpList_one _ rfl (.tmp 19) (.tmp 20) 22 rfl w1.heap.size 5 i0 (.int .u8 0) 1 Tryd.underlying22 hi hz0 hz1 hz2 rfl _ (n + 1 + k) _ rfl (HOW.out.alloc _) ⟨wr.heap.size, 0, none⟩ 1 (.int .u8 0) rfl ((At.new wr 5 #[_]).cell 0) rfl (by omega) (by unfold maxLen; omega) (by have := HBR.out.size; simp; omega) ?_; intro v5 w5 hown5 hgrow5 _)
      have hbr5 : Below w1.heap.size w1 w5 := (HBR.out.alloc HBR.out.size _).grown hgrow5 (by have := HBR.out.size; simp; omega) (fun g hg => (HOW.out.lt g hg).1)
      rw [zeros_step] at hown5
      obtain ⟨V5, c5, rfl, _, _⟩ := own_form hown5
      go_roundw
      case rel => exact ⟨k + 1, by omega, hown5, hbr5⟩
      case measure => show n + 1 + q - (n + 1 + k + 1) < n + 1 + q - (n + 1 + k); omega
end Go.Proofs.YtkmjfaaelkmnkaaDoor
