/-
  A Book is told a list of bytes: it holds one more; nothing else is changed.
-/
import Derived.Test.YtjleelpnkkeakaaGreatDoorBkLook
import Derived.Deep.AppendLies
import Derived.Deep.RegionLaw
namespace Go.Proofs.YtjleelpnkkeakaaGreatDoor
open Go.RowKit
attribute [local go_sem ↓] Go.wp_at_zero Go.wp_at_succ

theorem Tryz.info70 : (Tryz.prog.info? 70).map (fun i => (i.zero, i.size, i.bytes)) = some (some (.agg #[.slice none 0 0, .slice none 0 0, .int .i64 0]), 3, 56) := by kernel_rfl

def upd {α : Type} (f : Nat → α) (m : Nat) (a : α) (j : Nat) : α := if j = m then a else f j
theorem upd_eq {α : Type} (f : Nat → α) (m : Nat) (a : α) : upd f m a m = a := if_pos rfl
theorem upd_ne {α : Type} {f : Nat → α} {m j : Nat} {a : α} (h : j ≠ m) : upd f m a j = f j := if_neg h

/-- every row of bytes is as it was -/
def Kept5 (N : Nat) (w w' : World) : Prop := ∀ (u : Value) (k : Nat) (x : List Value), w.ownsRow N 5 1 u k x → w'.ownsRow N 5 1 u k x
theorem Kept5.tr {N : Nat} {a b c : World} (h : Kept5 N a b) (k : Kept5 N b c) : Kept5 N a c := fun u n x ho => k u n x (h u n x ho)

theorem ents_own {w : World} {N m : Nat} {v : Value} {l g : Nat → Value} (h : Ents w N v m l g) : ∃ xs, w.ownsRow N 70 3 v m xs ∧
    ∀ j, j < m → xs[j * 3]? = some (l j) ∧ xs[j * 3 + 1]? = some (g j) ∧ xs[j * 3 + 2]? = some (.int .i64 ((j + 1 : Nat) : Int)) ∧ ∃ a k c, g j = .slice a k c := by
  rcases h with ⟨rfl, rfl⟩ | ⟨h, cap, cur, rfl, hN, hat, hmc, hcm, hcs, hc⟩
  · exact ⟨[], World.ownsRow_nil _ _ _ _, fun j hj => absurd hj (Nat.not_lt_zero j)⟩
  · refine ⟨cur.toList.take (m * 3), ⟨by rw [List.length_take, Array.length_toList]; omega, .inr ⟨h, cap, cur, rfl, hN, hat, hmc, hcm, hcs, rfl⟩⟩, fun j hj => ?_⟩
    obtain ⟨c0, c1, c2, c3⟩ := hc j hj
    refine ⟨?_, ?_, ?_, c3⟩
    · rw [List.getElem?_take_of_lt (by omega), Array.getElem?_toList]; exact c0
    · rw [List.getElem?_take_of_lt (by omega), Array.getElem?_toList]; exact c1
    · rw [List.getElem?_take_of_lt (by omega), Array.getElem?_toList]; exact c2

theorem own_ents {w : World} {N m h cap : Nat} {l g : Nat → Value} {xs : List Value} (ho : w.ownsRow N 70 3 (.slice (some ⟨h, 0, none⟩) m cap) m xs)
    (hc : ∀ j, j < m → xs[j * 3]? = some (l j) ∧ xs[j * 3 + 1]? = some (g j) ∧ xs[j * 3 + 2]? = some (.int .i64 ((j + 1 : Nat) : Int)) ∧ ∃ a k c, g j = .slice a k c) : Ents w N (.slice (some ⟨h, 0, none⟩) m cap) m l g := by
  rcases ho.2 with ⟨hv, _⟩ | ⟨h', cap', cur, hv, hN, hat, hmc, hcm, hcs, ht⟩
  · cases hv
  · injection hv with h1 _ h3
    injection h1 with h1
    injection h1 with h1
    subst h1 h3
    refine .inr ⟨h, cap, cur, rfl, hN, hat, hmc, hcm, hcs, fun j hj => ?_⟩
    obtain ⟨c0, c1, c2, c3⟩ := hc j hj
    rw [← ht] at c0 c1 c2
    rw [List.getElem?_take_of_lt (by omega), Array.getElem?_toList] at c0 c1 c2
    exact ⟨c0, c1, c2, c3⟩

theorem keep_next {w w1 : World} {N B m k gb cap : Nat} {v lv : Value} {l g : Nat → Value} {n : Nat → Nat} {X : Nat → List Value} {x xs : List Value} (hb : Bk w N B m v l g n X)
    (hl : w.ownsRow N 5 1 lv k x) (hap : ∀ j, j < m → lv.ownBlock = none ∨ lv.ownBlock ≠ (l j).ownBlock)
    (hxs : ∀ j, j < m → xs[j * 3]? = some (l j) ∧ xs[j * 3 + 1]? = some (g j) ∧ xs[j * 3 + 2]? = some (.int .i64 ((j + 1 : Nat) : Int)) ∧ ∃ a k c, g j = .slice a k c) (hlen : xs.length = m * 3)
    (ho : w1.ownsRow N 70 3 (.slice (some ⟨gb, 0, none⟩) (m + 1) cap) (m + 1) (xs ++ [lv, .slice none 0 0, .int .i64 ((m + 1 : Nat) : Int)]))
    (hbk : At w1 B 52 ((bkc m v).setIfInBounds 0 (.int .i64 ((m + 1 : Nat) : Int)))) (h5 : Kept5 N w w1) :
    Bk (w1.setCell ⟨B, 1, none⟩ (.slice (some ⟨gb, 0, none⟩) (m + 1) cap)) N B (m + 1) (.slice (some ⟨gb, 0, none⟩) (m + 1) cap) (upd l m lv) (upd g m (.slice none 0 0)) (upd n m k) (upd X m x) ∧
      Kept5 N w (w1.setCell ⟨B, 1, none⟩ (.slice (some ⟨gb, 0, none⟩) (m + 1) cap)) := by
  have b1 := hbk.set 1 (.slice (some ⟨gb, 0, none⟩) (m + 1) cap)
  have kept : Kept5 N w (w1.setCell ⟨B, 1, none⟩ (.slice (some ⟨gb, 0, none⟩) (m + 1) cap)) := fun u q y hu => own_far (h5 u q y hu) hbk (by decide)
  refine ⟨⟨b1, ?_, fun j hj => ?_, fun i j hi hj hij => ?_, hb.2.2.2.2⟩, kept⟩
  · have e := own_ents (l := upd l m lv) (g := upd g m (.slice none 0 0)) ho (fun j hj => by
      by_cases hjm : j = m
      · subst hjm
        rw [upd_eq, upd_eq, List.getElem?_append_right (by omega), List.getElem?_append_right (by omega), List.getElem?_append_right (by omega), hlen]
        refine ⟨?_, ?_, ?_, ⟨_, _, _, rfl⟩⟩
        · rw [Nat.sub_self]; rfl
        · rw [show j * 3 + 1 - j * 3 = 1 by omega]; rfl
        · rw [show j * 3 + 2 - j * 3 = 2 by omega]; rfl
      · obtain ⟨c0, c1, c2, c3⟩ := hxs j (by omega)
        rw [upd_ne hjm, upd_ne hjm, List.getElem?_append_left (by omega), List.getElem?_append_left (by omega), List.getElem?_append_left (by omega)]
        exact ⟨c0, c1, c2, c3⟩)
    rcases e with ⟨h0, _⟩ | ⟨h, cap', cur, hv, hN, hat, r⟩
    · omega
    · have hne : B ≠ h := hbk.ne_ hat (by decide)
      exact .inr ⟨h, cap', cur, hv, hN, hat.far (p := ⟨B, 1, none⟩) hne _, r⟩
  · by_cases hjm : j = m
    · subst hjm
      rw [upd_eq, upd_eq, upd_eq]
      exact kept _ _ _ hl
    · rw [upd_ne hjm, upd_ne hjm, upd_ne hjm]
      exact kept _ _ _ (hb.2.2.1 j (by omega))
  · by_cases him : i = m
    · subst him
      rw [upd_eq, upd_ne (Ne.symm hij)]
      exact hap j (by omega)
    · rw [upd_ne him]
      by_cases hjm : j = m
      · subst hjm
        rw [upd_eq]
        rcases hap i (by omega) with h0 | h0
        · cases hli : (l i).ownBlock with
          | none => exact .inl rfl
          | some b => exact .inr (by rw [h0]; simp)
        · exact .inr (Ne.symm h0)
      · rw [upd_ne hjm]
        exact hb.2.2.2.1 i j (by omega) (by omega) hij

theorem ents_ne {w : World} {N m B : Nat} {v : Value} {l g : Nat → Value} {t : TypeId} {cs : Array Value} (h : Ents w N v m l g) (hB : At w B t cs) (ht : t ≠ 70) : some B ≠ v.ownBlock := by
  rcases h with ⟨_, rfl⟩ | ⟨h, cap, cur, rfl, _, hat, _⟩
  · simp [Value.ownBlock]
  · intro e
    simp [Value.ownBlock] at e
    exact hB.ne_ hat ht e

theorem cell_al' {W : World} {a : Addr} {v : Value} (o : Obj) (h : W.cell? a = some v) : (W.alloc o).cell? a = some v := (World.cell?_alloc_lt W o a (World.block_lt_of_cell? W a h)).trans h

theorem ents_far {w : World} {N m B i : Nat} {v u : Value} {l g : Nat → Value} {t : TypeId} {cs : Array Value} (h : Ents w N v m l g) (hB : At w B t cs) (ht : t ≠ 70) : Ents (w.setCell ⟨B, i, none⟩ u) N v m l g := by
  rcases h with h | ⟨h, cap, cur, hv, hN, hat, r⟩
  · exact .inl h
  · exact .inr ⟨h, cap, cur, hv, hN, hat.far (p := ⟨B, i, none⟩) (hB.ne_ hat ht) u, r⟩

theorem new_cells (w : World) (t : TypeId) (xs : List Value) : ∀ j u, xs[j]? = some u → (w.alloc (.cells xs.toArray t)).cell? ((⟨w.heap.size, 0, none⟩ : Addr).add j) = some u := by
  intro j u hu
  rw [Addr.add_lit, Nat.zero_add, (At.new w t xs.toArray).cell]
  simpa using hu

theorem kept_ne {w : World} {N m k : Nat} {v u : Value} {l g : Nat → Value} {x : List Value} (h : Ents w N v m l g) (hu : w.ownsRow N 5 1 u k x) : u.ownBlock = none ∨ u.ownBlock ≠ v.ownBlock := by
  rcases own_cases hu with ⟨rfl, _, _⟩ | ⟨b, c, rfl⟩
  · exact .inl rfl
  · obtain ⟨cu, hat, _⟩ := own_at hu
    exact .inr (ents_ne h hat (by decide))

theorem kept5_of {N m : Nat} {w w' : World} {v : Value} {l g : Nat → Value} (h : Ents w N v m l g) (hg : w.grownBy w' v.ownBlock) : Kept5 N w w' := fun u k x hu => by
  refine hu.kept hg ?_
  rcases own_cases hu with ⟨rfl, _, _⟩ | ⟨b, c, rfl⟩
  · exact .inl rfl
  · obtain ⟨cu, hat, _⟩ := own_at hu
    exact .inr (ents_ne h hat (by decide))

set_option maxRecDepth 100000 in
set_option maxHeartbeats 2000000 in
theorem keep_ok (w : World) (N B m k : Nat) (v : Value) (AL : Option Addr) (cl : Nat) (l g : Nat → Value) (n : Nat → Nat) (X : Nat → List Value) (x : List Value) (hm : m ≤ 200) (hb : Bk w N B m v l g n X)
    (hl : w.ownsRow N 5 1 (.slice AL k cl) k x) (hap : ∀ j, j < m → (Value.slice AL k cl).ownBlock = none ∨ (Value.slice AL k cl).ownBlock ≠ (l j).ownBlock) :
    Calls Tryz.prog 24 #[.pointer (some ⟨B, 0, none⟩), .slice AL k cl] w fun e w' => e = .returned (.tuple #[]) ∧
      (∃ v', Bk w' N B (m + 1) v' (upd l m (.slice AL k cl)) (upd g m (.slice none 0 0)) (upd n m k) (upd X m x)) ∧ Kept5 N w w' ∧ Below N w w' := by
  obtain ⟨i0, hi0, hz0, hz1, hz2⟩ := info_parts Tryz.info70
  obtain ⟨A, c, hv⟩ : ∃ A c, v = .slice A m c := by
    rcases hb.2.1 with ⟨rfl, rfl⟩ | ⟨h, cap, _, rfl, _⟩
    · exact ⟨none, 0, rfl⟩
    · exact ⟨_, cap, rfl⟩
  subst hv
  have B0 : w.cell? ⟨B, 0, none⟩ = some (.int .i64 (m : Int)) := hb.1.cell 0
  have B1 : w.cell? ⟨B, 1, none⟩ = some (.slice A m c) := hb.1.cell 1
  have F0 : w.frozen? ⟨B, 0, none⟩ = false := hb.1.frozen 0
  have F1 : w.frozen? ⟨B, 1, none⟩ = false := hb.1.frozen 1
  have HB := Lib.hid hb
  have HL := Lib.hid hl
  have HAP := Lib.hid hap
  clear hb hl hap
  go_enter Tryz.func24, Tryz.ntmps24
  go_wp2
  have hat0 := HB.out.1.set 0 (.int .i64 ((m : Int) + 1))
  have hen0 := ents_far HB.out.2.1 HB.out.1 (by decide) (i := 0) (u := .int .i64 ((m : Int) + 1))
  have k50 : Kept5 N w (w.setCell ⟨B, 0, none⟩ (.int .i64 ((m : Int) + 1))) := fun u q y hu => own_far hu HB.out.1 (by decide)
  have bel0 : Below N w (w.setCell ⟨B, 0, none⟩ (.int .i64 ((m : Int) + 1))) := (Below.refl _ _).setCell HB.out.2.2.2.2 _
  clear B0 B1 F0 F1
  generalize w.setCell ⟨B, 0, none⟩ (.int .i64 ((m : Int) + 1)) = w0 at *
  have C0 : w0.cell? ⟨B, 0, none⟩ = some (.int .i64 ((m : Int) + 1)) := (hat0.cell 0).trans (by simp [bkc])
  have C1 : w0.cell? ⟨B, 1, none⟩ = some (.slice A m c) := (hat0.cell 1).trans (by simp [bkc])
  have G0 : w0.frozen? ⟨B, 0, none⟩ = false := hat0.frozen 0
  have G1 : w0.frozen? ⟨B, 1, none⟩ = false := hat0.frozen 1
  have hN0 : N ≤ w0.heap.size := by have := HB.out.2.2.2.2; have := hat0.lt; omega
  obtain ⟨xs, hown, hxs⟩ := ents_own hen0
  have HXS := Lib.hid hxs
  have HAT0 := Lib.hid hat0
  clear hxs hat0
  have C1a := cell_al' (.cells #[.slice AL k cl, .slice none 0 0, .int .i64 ((m : Int) + 1)] 70) C1
  have C0a := cell_al' (.cells #[.slice AL k cl, .slice none 0 0, .int .i64 ((m : Int) + 1)] 70) C0
  go_region_law
    (first
      | (refine step_append_lies _ rfl (.tmp 15) (.tmp 22) 34 (by rfl) N 70 i0 _ 3 56 Tryz.underlying34 hi0 hz0 hz1 hz2 rfl (by omega) (.slice A m c) m xs (by rfl) (hown.drew.alloc _) ⟨w0.heap.size, 0, none⟩ 1 1 [.slice AL k cl, .slice none 0 0, .int .i64 ((m : Int) + 1)] (by rfl) (by rfl) (new_cells w0.drew _ _) (by simp [Value.oneCell']) (by omega) (by unfold maxLen; omega) (by omega) (by simp; omega) (w0.heap.size + 1) (by simp) ?_
         intro gb cap w1 ho hg hat hlt
         have hat1 := (HAT0.out.drew.alloc (.cells #[.slice AL k cl, .slice none 0 0, .int .i64 ((m : Int) + 1)] 70)).grown hg (ents_ne hen0 HAT0.out (by decide))
         have D0 : w1.cell? ⟨B, 0, none⟩ = some (.int .i64 ((m : Int) + 1)) := (hat1.cell 0).trans (by simp [bkc])
         have D1 : w1.cell? ⟨B, 1, none⟩ = some (.slice A m c) := (hat1.cell 1).trans (by simp [bkc])
         have G1' : w1.frozen? ⟨B, 1, none⟩ = false := hat1.frozen 1))
  all_goals
    go_wp2
    go_end0
    have hc : ((m : Int) + 1) = ((m + 1 : Nat) : Int) := by simp
    rw [hc] at ho hat1
    have k51 : Kept5 N w w1 := fun u q y hu => ((k50 u q y hu).alloc _).drew.kept hg (kept_ne hen0 (k50 u q y hu))
    have hlen : xs.length = m * 3 := hown.1
    obtain ⟨h1, h2⟩ := keep_next (gb := gb) (cap := cap) HB.out HL.out HAP.out HXS.out hlen ho hat1 k51
    refine ⟨rfl, ⟨_, h1⟩, h2, ?_⟩
    have b1 : Below N w ((w0.alloc (.cells #[.slice AL k cl, .slice none 0 0, .int .i64 ((m : Int) + 1)] 70)).drew) := (bel0.alloc hN0 _).drew
    exact (b1.grown hg (by simp; omega) (fun g hg' => (hown.lt g hg').1)).setCell HB.out.2.2.2.2 _

/-- the same, by the door Bytes -/
theorem bytes_ok (w : World) (N B m k : Nat) (v : Value) (AL : Option Addr) (cl : Nat) (l g : Nat → Value) (n : Nat → Nat) (X : Nat → List Value) (x : List Value) (hm : m ≤ 200) (hb : Bk w N B m v l g n X)
    (hl : w.ownsRow N 5 1 (.slice AL k cl) k x) (hap : ∀ j, j < m → (Value.slice AL k cl).ownBlock = none ∨ (Value.slice AL k cl).ownBlock ≠ (l j).ownBlock) :
    Calls Tryz.prog 15 #[.pointer (some ⟨B, 0, none⟩), .slice AL k cl] w fun e w' => e = .returned (.tuple #[]) ∧
      (∃ v', Bk w' N B (m + 1) v' (upd l m (.slice AL k cl)) (upd g m (.slice none 0 0)) (upd n m k) (upd X m x)) ∧ Kept5 N w w' ∧ Below N w w' := by
  have H := Lib.hid (keep_ok w N B m k v AL cl l g n X x hm hb hl hap)
  clear hb hl hap
  go_enter Tryz.func15, Tryz.ntmps15
  go_wp2_with (go_at_call 24; refine H.out.mono ?_; rintro e w' ⟨rfl, h1, h2, h3⟩)
  go_end0
  exact ⟨rfl, h1, h2, h3⟩
end Go.Proofs.YtjleelpnkkeakaaGreatDoor
