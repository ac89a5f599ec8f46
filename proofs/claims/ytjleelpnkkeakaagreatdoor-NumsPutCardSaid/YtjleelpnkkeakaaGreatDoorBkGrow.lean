/-
  A Book's growByte: behind each list that it holds forty marks more are put; no two meet.
-/
import Derived.Test.YtjleelpnkkeakaaGreatDoorBkByte
namespace Go.Proofs.YtjleelpnkkeakaaGreatDoor
open Go.RowKit

theorem Tryz.info5b : (Tryz.prog.info? 5).map (fun i => (i.zero, i.size, i.bytes)) = some (some (.int .u8 0), 1, 1) := by kernel_rfl

def marks (n : Nat → Nat) (j : Nat) : List Value := List.replicate (n j) (mk j)

/-- all lists are filled, and the first i are grown -/
def Gr (w : World) (N B m i : Nat) (v : Value) (l g : Nat → Value) (n : Nat → Nat) : Prop :=
  Bk w N B m v l g n (marks n) ∧ (∀ j, j < i → j < m → w.ownsRow N 5 1 (g j) (n j + 40) (List.replicate (n j + 40) (mk j))) ∧
    ∀ j k, j < i → j < m → k < m → k ≠ j → (g j).ownBlock = none ∨ (g j).ownBlock ≠ (l k).ownBlock

/-- while list i is grown -/
def InG (wi wo : World) (N i k ni : Nat) (lv gv u : Value) : Prop :=
  At wi wo.heap.size 70 #[lv, gv, .int .i64 ((i + 1 : Nat) : Int)] ∧ wi.ownsRow N 5 1 u (ni + k) (List.replicate (ni + k) (mk i)) ∧
    wi.ownsRow N 5 1 lv ni (List.replicate ni (mk i)) ∧ wo.grownBy wi lv.ownBlock ∧ (u.ownBlock = lv.ownBlock ∨ ∀ b, u.ownBlock = some b → wo.heap.size ≤ b) ∧ N ≤ wo.heap.size

theorem ing_start {wr : World} {N i ni : Nat} {lv gv : Value} (h : wr.ownsRow N 5 1 lv ni (List.replicate ni (mk i))) (hN : N ≤ wr.heap.size) :
    InG (wr.alloc (.cells #[lv, gv, .int .i64 ((i + 1 : Nat) : Int)] 70)) wr N i 0 ni lv gv lv :=
  ⟨At.new _ _ _, h.alloc _, h.alloc _, World.grownBy_alloc _ _ _, .inl rfl, hN⟩

theorem ing_step {wi wo w' : World} {N i k ni : Nat} {lv gv u u' : Value} {o : Obj} (h : InG wi wo N i k ni lv gv u)
    (h2 : w'.ownsRow N 5 1 u' (ni + k + 1) (List.replicate (ni + k) (mk i) ++ [mk i])) (h3 : (wi.alloc o).grownBy w' u.ownBlock)
    (h4 : (∃ g cap, u = .slice (some ⟨g, 0, none⟩) (ni + k) cap ∧ u' = .slice (some ⟨g, 0, none⟩) (ni + k + 1) cap) ∨ ((wi.alloc o).grownBy w' none ∧ ∀ b, u'.ownBlock = some b → (wi.alloc o).heap.size ≤ b)) :
    InG w' wo N i (k + 1) ni lv gv u' := by
  obtain ⟨a1, a2, a3, a4, a5, a6⟩ := h
  have b1 := a1.alloc o
  have b2 := a2.alloc o
  have b3 := a3.alloc o
  rw [← List.replicate_succ'] at h2
  refine ⟨b1.grown h3 (own_ne b2 b1 (by decide)), h2, ?_, ?_, ?_, a6⟩
  · rcases h4 with ⟨g, cap, rfl, rfl⟩ | ⟨h5, _⟩
    · by_cases he : lv.ownBlock = some g
      · rcases own_cases b3 with ⟨rfl, _, _⟩ | ⟨g', c', rfl⟩
        · cases he
        · simp [Value.ownBlock] at he
          subst he
          obtain ⟨cu, hcu, _, _, _, hcs, _⟩ := own_at b2
          obtain ⟨cl, hcl, hb, hn, hc, hls, _⟩ := own_at b3
          have : cl = cu := by unfold At at hcl hcu; rw [hcl] at hcu; injection hcu with hcu; injection hcu
          subst this
          obtain ⟨cw, hcw, _, _, _, hws, htk⟩ := own_at h2
          have := at_own (base := N) (n := ni) (c := c') hcw hb hn hc (by omega)
          have e : cw.toList.take ni = List.replicate ni (mk i) := by
            have h6 : (cw.toList.take (ni + k + 1)).take ni = cw.toList.take ni := by rw [List.take_take, Nat.min_eq_left (by omega)]
            rw [← h6, htk, List.take_replicate, Nat.min_eq_left (by omega)]
          rwa [e] at this
      · exact b3.kept h3 (.inr (by simpa [Value.ownBlock] using he))
    · exact b3.kept h5 (by cases hb : lv.ownBlock <;> simp)
  · refine grown_new (grown_al a4 o) h3 (fun g hg => ?_)
    rcases a5 with h5 | h5
    · exact .inl (by rw [← h5, hg])
    · exact .inr (h5 g hg)
  · rcases h4 with ⟨g, cap, rfl, rfl⟩ | ⟨_, h5⟩
    · exact a5
    · refine .inr fun b hb => ?_
      have h6 := h5 b hb
      have h7 := a4.size
      simp at h6
      omega

def updG (g : Nat → Value) (i : Nat) (u : Value) (j : Nat) : Value := if j = i then u else g j
theorem updG_eq (g : Nat → Value) (i : Nat) (u : Value) : updG g i u i = u := if_pos rfl
theorem updG_ne {g : Nat → Value} {i j : Nat} {u : Value} (h : j ≠ i) : updG g i u j = g j := if_neg h

theorem own_far {w : World} {N n h i : Nat} {v u : Value} {xs : List Value} {t : TypeId} {cs : Array Value} (ho : w.ownsRow N 5 1 v n xs) (hg : At w h t cs) (ht : (5 : Nat) ≠ t) : (w.setCell ⟨h, i, none⟩ u).ownsRow N 5 1 v n xs :=
  ho.kept (grown_set (World.grownBy.refl w (some h)) i u) (.inr (own_ne ho hg ht).symm)

theorem grow_next {wo wi : World} {N B m i ni h c : Nat} {l g : Nat → Value} {n : Nat → Nat} {u lv gv : Value} (hi : i < m)
    (hG : Gr wo N B m i (.slice (some ⟨h, 0, none⟩) m c) l g n) (hl : l i = lv) (hn : ni = n i) (hI : InG wi wo N i 40 ni lv gv u) :
    Gr (wi.setCell ⟨h, i * 3 + 1, none⟩ u) N B m (i + 1) (.slice (some ⟨h, 0, none⟩) m c) l (updG g i u) n := by
  subst hn hl
  obtain ⟨⟨h1, h2, h3, h4, h5⟩, h6, h7⟩ := hG
  obtain ⟨k1, k2, k3, k4, k5, k6⟩ := hI
  have hrow := h3 i hi
  rcases h2 with ⟨h0, _⟩ | ⟨h', cap, cur, hv, hN, hat, hmc, hcm, hcs, hcell⟩
  · omega
  · injection hv with hv1 _ hv3
    injection hv1 with hv1
    injection hv1 with hv1
    subst hv1 hv3
    have atB := h1.grown k4 (own_ne hrow h1 (by decide))
    have ath := hat.grown k4 (own_ne hrow hat (by decide))
    have hBh : h ≠ B := ath.ne_ atB (by decide)
    have rows : ∀ j, j < m → wi.ownsRow N 5 1 (l j) (n j) (marks n j) := fun j hj => by
      by_cases hji : j = i
      · subst hji; exact k3
      · exact (h3 j hj).kept k4 (h4 j i hj hi hji)
    refine ⟨⟨atB.far (p := ⟨h, i * 3 + 1, none⟩) hBh u, .inr ⟨h, c, _, rfl, hN, ath.set (i * 3 + 1) u, hmc, hcm, by simpa using hcs, fun j hj => ?_⟩, fun j hj => own_far (rows j hj) ath (by decide), h4, h5⟩, fun j hj hjm => ?_, fun j k hj hjm hk hkj => ?_⟩
    · obtain ⟨c0, c1, c2, c3⟩ := hcell j hj
      have e0 : ¬ i * 3 + 1 = j * 3 := by omega
      have e2 : ¬ i * 3 + 1 = j * 3 + 2 := by omega
      refine ⟨by rw [Array.getElem?_setIfInBounds, if_neg e0]; exact c0, ?_, by rw [Array.getElem?_setIfInBounds, if_neg e2]; exact c2, ?_⟩
      · by_cases hji : j = i
        · subst hji
          rw [updG_eq, Array.getElem?_setIfInBounds, if_pos rfl, if_pos (by omega)]
        · rw [updG_ne hji]
          have e1 : ¬ i * 3 + 1 = j * 3 + 1 := by omega
          rw [Array.getElem?_setIfInBounds, if_neg e1]; exact c1
      · by_cases hji : j = i
        · subst hji
          rw [updG_eq]
          obtain ⟨A', c', e', _⟩ := own_form k2
          exact ⟨A', _, c', e'⟩
        · rw [updG_ne hji]; exact c3
    · by_cases hji : j = i
      · subst hji
        rw [updG_eq]
        exact own_far k2 ath (by decide)
      · rw [updG_ne hji]
        exact own_far ((h6 j (by omega) hjm).kept k4 (h7 j i (by omega) hjm hi (Ne.symm hji))) ath (by decide)
    · by_cases hji : j = i
      · subst hji
        rw [updG_eq]
        rcases k5 with e | e
        · rw [e]
          exact h4 j k hjm hk (Ne.symm hkj)
        · cases hu : u.ownBlock with
          | none => exact .inl rfl
          | some b =>
            refine .inr fun hc => ?_
            have h8 := e b hu
            have h9 := ((h3 k hk).lt b hc.symm).2
            omega
      · rw [updG_ne hji]
        exact h7 j k (by omega) hjm hk hkj

theorem grow_below {w wo wi : World} {N i k ni h q : Nat} {lv gv u x : Value} (hI : InG wi wo N i k ni lv gv u) (hN : N ≤ h) (hb : Below N w wo) : Below N w (wi.setCell ⟨h, q, none⟩ x) :=
  (hb.grown hI.2.2.2.1 hI.2.2.2.2.2 (fun g hg => (hI.2.2.1.lt g hg).1)).setCell hN x

set_option maxRecDepth 100000 in
set_option maxHeartbeats 1000000 in
theorem grow_ok (w : World) (N B m : Nat) (v : Value) (l g : Nat → Value) (n : Nat → Nat) (hm : m ≤ 200) (hb : Bk w N B m v l g n (marks n)) (hn : ∀ j, j < m → n j ≤ 4194304) :
    Calls Tryz.prog 42 #[.pointer (some ⟨B, 0, none⟩)] w fun e w' => e = .returned (.tuple #[]) ∧ (∃ g', Gr w' N B m m v l g' n) ∧ Below N w w' := by
  obtain ⟨i0, hi0, hz0, hz1, hz2⟩ := info_parts Tryz.info5b
  obtain ⟨A, c, hv⟩ : ∃ A c, v = .slice A m c := by
    rcases hb.2.1 with ⟨rfl, rfl⟩ | ⟨h, cap, _, rfl, _⟩
    · exact ⟨none, 0, rfl⟩
    · exact ⟨_, cap, rfl⟩
  subst hv
  have HB := Lib.hid hb
  clear hb
  have HN := Lib.hid hn
  clear hn
  go_enter Tryz.func42, Tryz.ntmps42
  go_wp2
  go_loopw [2] (fun s wr => ∃ i : Nat, i ≤ m ∧ s = .int .i64 i ∧ Hid (∃ g', Gr wr N B m i (.slice A m c) l g' n) ∧ Below N w wr) (fun s _ => m - (intOf s).toNat)
  case atStart => exact ⟨0, Nat.zero_le _, rfl, Lib.hid ⟨g, HB.out, fun _ h => absurd h (Nat.not_lt_zero _), fun _ _ h => absurd h (Nat.not_lt_zero _)⟩, Below.refl _ _⟩
  case round =>
    obtain ⟨i, hi, rfl, HR0, hbel⟩ := hrel
    obtain ⟨g', hR⟩ := HR0.out
    have HR := Lib.hid hR
    clear hR HR0
    have hc1 : wr.cell? ⟨B, 1, none⟩ = some (.slice A m c) := HR.out.1.1.cell 1
    by_cases hlt : i < m
    · rcases HR.out.1.2.1 with ⟨h0, _⟩ | ⟨h, cap, cur, hvv, hNh, hat, hmc, hcm, hcs, hcell⟩
      · omega
      · injection hvv with hA _ hcc
        subst hA hcc
        obtain ⟨q0, q1, q2, AG, kG, cG, hge⟩ := hcell i hlt
        obtain ⟨AL, cl, hle, _, _⟩ := own_form (HR.out.1.2.2.1 i hlt)
        have e0 : wr.cell? ⟨h, i * 3, none⟩ = some (.slice AL (n i) cl) := (hat.cell _).trans (hle ▸ q0)
        have e1 : wr.cell? ⟨h, i * 3 + 1, none⟩ = some (.slice AG kG cG) := (hat.cell _).trans (hge ▸ q1)
        have e2 : wr.cell? ⟨h, i * 3 + 2, none⟩ = some (.int .i64 ((i + 1 : Nat) : Int)) := (hat.cell _).trans q2
        have hlt' : (i : Int) < (m : Int) := by omega
        have HLE := Lib.hid hle
        have HAT := Lib.hid hat
        have hni := HN.out i hlt
        obtain ⟨ni, hnie⟩ : ∃ ni, ni = n i := ⟨_, rfl⟩
        rw [← hnie] at e0 hni
        have HNI := Lib.hid hnie
        clear q0 q1 q2 hcell hcs hat hcm hle hge hnie
        go_wp2
        obtain ⟨wo, rfl⟩ : ∃ wo : World, wo = wr := ⟨_, rfl⟩
        go_loopw [4, 5] (fun u s wi => ∃ k : Nat, k ≤ 40 ∧ s = .int .i64 k ∧ Hid (InG wi wo N i k ni (.slice AL ni cl) (.slice AG kG cG) u)) (fun _ s _ => 40 - (intOf s).toNat)
        case atStart =>
          refine ⟨0, Nat.zero_le _, rfl, Lib.hid ?_⟩
          have h3 := HR.out.1.2.2.1 i hlt
          unfold marks at h3
          rw [HLE.out, ← HNI.out] at h3
          exact ing_start h3 (by have := HR.out.1.1.lt; have := HR.out.1.2.2.2.2; omega)
        case round =>
          obtain ⟨k, hk, rfl, HI⟩ := hrel
          obtain ⟨AU, cu, hue, _, _⟩ := own_form HI.out.2.1
          subst hue
          have V2 : wr.cell? ⟨wo.heap.size, 2, none⟩ = some (.int .i64 ((i + 1 : Nat) : Int)) := HI.out.1.cell 2
          by_cases hkl : k < 40
          · have hkI : (k : Int) < 40 := by omega
            have hown := HI.out.2.1.alloc (.cells #[.int .u8 ((i : Int) + 1)] 5)
            have hNw : N ≤ wr.heap.size := Nat.le_trans HI.out.2.2.2.2.2 HI.out.2.2.2.1.size
            go_wp2_with (first
              | (go_at_call 76; refine (mark_any (i + 1) _ (by omega)).mono ?_; rintro e w' ⟨rfl, rfl⟩)
              | (at_builtin; refine wpList_one _ rfl (.tmp 28) (.tmp 32) _ rfl N 5 i0 (.int .u8 0) 1 Tryz.underlying22 hi0 hz0 hz1 hz2 rfl (.slice AU (ni + k) cu) (ni + k) _ rfl hown ⟨wr.heap.size, 0, none⟩ 1 (.int .u8 ((i : Int) + 1)) rfl (by simp) rfl (by omega) (by unfold maxLen; omega) (by simp; omega) ?_; intro u' w1 h2 h3 h4))
            have hmk : Value.int .u8 ((i : Int) + 1) = mk i := by simp [mk]
            rw [hmk] at h2
            go_roundw
            case rel => exact ⟨k + 1, by omega, by go_num, Lib.hid (ing_step HI.out h2 h3 h4)⟩
            case measure => simp [intOf]; omega
          · obtain rfl : k = 40 := by omega
            have hrow := HR.out.1.2.2.1 i hlt
            have hcB : wr.cell? ⟨B, 1, none⟩ = some (.slice (some ⟨h, 0, none⟩) m c) := (HR.out.1.1.grown HI.out.2.2.2.1 (by rw [HNI.out, ← HLE.out]; exact own_ne hrow HR.out.1.1 (by decide))).cell 1
            have hath : At wr h 70 cur := HAT.out.grown HI.out.2.2.2.1 (by rw [HNI.out, ← HLE.out]; exact own_ne hrow HAT.out (by decide))
            have hch : wr.cell? ⟨h, i * 3 + 1, none⟩ = some (.slice AG kG cG) := by rw [hath.cell, ← HAT.out.cell]; exact e1
            have hfh : wr.frozen? ⟨h, i * 3 + 1, none⟩ = false := hath.frozen _
            clear hath hrow
            go_wp2
            go_roundw
            case rel => exact ⟨i + 1, by omega, by go_num, Lib.hid ⟨_, grow_next hlt HR.out (by rw [HNI.out]; exact HLE.out) HNI.out HI.out⟩, grow_below HI.out hNh hbel⟩
            case measure => simp [intOf]; omega
    · obtain rfl : i = m := by omega
      go_wp2
      go_end0
      exact ⟨rfl, ⟨g', HR.out⟩, hbel⟩
end Go.Proofs.YtjleelpnkkeakaaGreatDoor
