/-
  The statements' own check of some answers (alive, of layer 6).
-/
import Derived.Lib.SlBytesConst
import Derived.Test.YtkmjfaaelkmnkaaDoorMNuShiftN
import Derived.Test.YtkmjfaaelkmnkaaDoorMNumber
import Derived.Test.YtkmjfaaelkmnkaaDoorMSoft
namespace Go.Proofs.YtkmjfaaelkmnkaaDoor.Sf
open Go.RowKit
set_option linter.unusedSimpArgs false
set_option linter.unusedVariables false
set_option maxRecDepth 100000

def Bk (w : World) (g : Nat) (t : TypeId) (cs : Array Value) : Prop := ∃ fr, w.heap[g]? = some (.cells cs t fr)
theorem Bk.soft {w w' : World} {g : Nat} {t : TypeId} {cs : Array Value} (h : Bk w g t cs) (hs : Soft w w') : Bk w' g t cs := by
  obtain ⟨fr, h⟩ := h
  exact hs.cells _ _ _ _ h
theorem Bk.rd {w : World} {g : Nat} {t : TypeId} {cs : Array Value} {xs : List Value} (h : Bk w g t cs) (e : cs = xs.toArray) : Rd w (some ⟨g, 0, none⟩) xs.length xs := by
  subst e
  obtain ⟨fr, h⟩ := h
  refine ⟨rfl, fun _ => ⟨g, 0, rfl, (Array.getElem?_eq_some_iff.1 h).1, fun j u hu => ?_⟩⟩
  rw [Nat.zero_add, cell_of_row _ g j xs.toArray t fr h]
  simpa using hu
/-- a row of bytes that the region made -/
def KB (base : Nat) (l : List Nat) (n : Nat) : Kind := ⟨false, fun v w => ∃ g, v = .slice (some ⟨g, 0, none⟩) n n ∧ base ≤ g ∧ Bk w g 5 (bs l).toArray, fun _ _ _ ⟨g, h1, h2, h3⟩ hs => ⟨g, h1, h2, h3.soft hs⟩⟩
def KR (base : Nat) : Kind := ⟨false, fun v w => ∃ g g1 g2, v = .slice (some ⟨g, 0, none⟩) 2 2 ∧ Bk w g 22 #[.slice (some ⟨g1, 0, none⟩) 1 1, .slice (some ⟨g2, 0, none⟩) 2 2] ∧ Bk w g1 5 (bs [97]).toArray ∧ Bk w g2 5 (bs [98, 99]).toArray,
  fun _ _ _ ⟨g, g1, g2, h1, h2, h3, h4⟩ hs => ⟨g, g1, g2, h1, h2.soft hs, h3.soft hs, h4.soft hs⟩⟩
section
variable {dst : Option Tmp} {ty : TypeId} {pos : String} {after : Array Edge} {gd : Option (Nat × Bool)} {x y : Operand} {a : Act} {ρ : Operand → Value} {w : World}
theorem bld_b1 : (execOp a.eval ⟨dst, .buildSlice 22 1 #[(0, .const (.int .u8 97))], ty, pos, after, gd⟩).run Tryd.prog w = .ok (.value (.slice (some ⟨w.heap.size, 0, none⟩) 1 1)) (w.alloc (.cells (bs [97]).toArray 5)) := by
  simp [execOp, go_sem, bs]
theorem bld_b2 : (execOp a.eval ⟨dst, .buildSlice 22 2 #[(0, .const (.int .u8 98)), (1, .const (.int .u8 99))], ty, pos, after, gd⟩).run Tryd.prog w = .ok (.value (.slice (some ⟨w.heap.size, 0, none⟩) 2 2)) (w.alloc (.cells (bs [98, 99]).toArray 5)) := by
  simp [execOp, go_sem, bs]
theorem bld_b20 : (execOp a.eval ⟨dst, .buildSlice 22 20 #[(0, .const (.int .u8 0)), (1, .const (.int .u8 0)), (2, .const (.int .u8 0)), (3, .const (.int .u8 1)), (4, .const (.int .u8 120)), (5, .const (.int .u8 0)), (6, .const (.int .u8 0)), (7, .const (.int .u8 0)), (8, .const (.int .u8 2)), (9, .const (.int .u8 0)), (10, .const (.int .u8 0)), (11, .const (.int .u8 0)), (12, .const (.int .u8 1)), (13, .const (.int .u8 97)), (14, .const (.int .u8 0)), (15, .const (.int .u8 0)), (16, .const (.int .u8 0)), (17, .const (.int .u8 2)), (18, .const (.int .u8 98)), (19, .const (.int .u8 99))], ty, pos, after, gd⟩).run Tryd.prog w = .ok (.value (.slice (some ⟨w.heap.size, 0, none⟩) 20 20)) (w.alloc (.cells (bs [0, 0, 0, 1, 120, 0, 0, 0, 2, 0, 0, 0, 1, 97, 0, 0, 0, 2, 98, 99]).toArray 5)) := by
  kernel_rfl
theorem bld_r {A B : Option Addr} {n c m d : Nat} (hx : ρ x = .slice A n c) (hy : ρ y = .slice B m d) : (execOp ρ ⟨dst, .buildSlice 34 2 #[(0, x), (1, y)], ty, pos, after, gd⟩).run Tryd.prog w = .ok (.value (.slice (some ⟨w.heap.size, 0, none⟩) 2 2)) (w.alloc (.cells #[.slice A n c, .slice B m d] 22)) := by
  simp [execOp, hx, hy, go_sem]
theorem convM_run {g n c : Nat} {cs : Array Value} {fr : Nat × Nat} (hx : ρ x = .slice (some ⟨g, 0, none⟩) n c) (hh : w.heap[g]? = some (.cells cs 5 fr)) :
    (execOp ρ ⟨dst, .convert 22 22 x, ty, pos, after, gd⟩).run Tryd.prog w = .ok (.value (.slice (some ⟨g, 0, none⟩) n c)) (w.freeze ⟨g, cs.size, none⟩ 1) := by
  have hsh : w.shape? g = some (5, cs.size) := by unfold World.shape?; rw [hh]
  have h : (convert 22 22 (.slice (some ⟨g, 0, none⟩) n c)).run Tryd.prog w = .ok (.slice (some ⟨g, 0, none⟩) n c) (w.freeze ⟨g, cs.size, none⟩ 1) := by
    simp [convert, run_underlying Tryd.underlying22, run_underlying Tryd.underlying5, markStringish, hsh]
  simp only [execOp, hx]
  simp [go_sem, h]
end
theorem freeze_heap {w : World} {g k : Nat} {cs : Array Value} {t : TypeId} {fr : Nat × Nat} (hh : w.heap[g]? = some (.cells cs t fr)) :
    (∃ fr', (w.freeze ⟨g, k, none⟩ 1).heap[g]? = some (.cells cs t fr')) ∧ ∀ j, j ≠ g → (w.freeze ⟨g, k, none⟩ 1).heap[j]? = w.heap[j]? := by
  obtain ⟨lo, hi⟩ := fr
  constructor
  · refine ⟨if lo == hi then (k, k + 1) else (min lo k, max hi (k + 1)), ?_⟩
    simp [World.freeze, Array.getElem?_modify, hh]
  · intro j hj
    simp [World.freeze, Array.getElem?_modify, Ne.symm hj]
theorem freeze_at {w : World} {g k : Nat} {cs : Array Value} {t : TypeId} {fr : Nat × Nat} (hh : w.heap[g]? = some (.cells cs t fr)) : Bk (w.freeze ⟨g, k, none⟩ 1) g t cs := (freeze_heap hh).1
theorem freeze_size (w : World) (a : Addr) : (w.freeze a 1).heap.size = w.heap.size := by simp [World.freeze]
theorem step_mark {W w : World} {g k : Nat} {cs : Array Value} {t : TypeId} {fr : Nat × Nat} (hb : Below W.heap.size W w) (hg : W.heap.size ≤ g) (hh : w.heap[g]? = some (.cells cs t fr)) : Step W w (w.freeze ⟨g, k, none⟩ 1) := by
  obtain ⟨⟨fr', h1⟩, h2⟩ := freeze_heap (k := k) hh
  refine ⟨⟨hb.os, hb.tape, hb.output, by rw [freeze_size]; exact hb.size, fun j hj => (h2 j (by omega)).trans (hb.block j hj)⟩, ⟨by rw [freeze_size]; exact Nat.le_refl _, fun j cs' t' fr2 hj => ?_⟩⟩
  by_cases e : j = g
  · subst e
    rw [hh] at hj
    injection hj with hj
    injection hj with e1 e2
    subst e1
    subst e2
    exact ⟨fr', h1⟩
  · exact ⟨fr2, (h2 j e).trans hj⟩
theorem Rows2.none (w : World) : Rows2 w none 0 0 (fun _ => none) (fun _ => 0) (fun _ => 0) (fun _ => []) :=
  ⟨Nat.le_refl _, Nat.zero_le _, fun j hj => absurd hj (Nat.not_lt_zero _), fun j hj => absurd hj (Nat.not_lt_zero _), fun j hj => absurd hj (Nat.not_lt_zero _), fun j hj => absurd hj (Nat.not_lt_zero _), fun j hj => absurd hj (Nat.not_lt_zero _)⟩
def RB2 (j : Nat) : List Nat := if j = 0 then [97] else [98, 99]
theorem rows_two {w : World} {g g1 g2 : Nat} (h0 : Bk w g 22 #[.slice (some ⟨g1, 0, none⟩) 1 1, .slice (some ⟨g2, 0, none⟩) 2 2]) (h1 : Bk w g1 5 (bs [97]).toArray) (h2 : Bk w g2 5 (bs [98, 99]).toArray) :
    Rows2 w (some ⟨g, 0, none⟩) 2 2 (fun j => if j = 0 then some ⟨g1, 0, none⟩ else some ⟨g2, 0, none⟩) (fun j => if j = 0 then 1 else 2) (fun j => if j = 0 then 1 else 2) RB2 := by
  have hr := h0.rd (xs := [.slice (some ⟨g1, 0, none⟩) 1 1, .slice (some ⟨g2, 0, none⟩) 2 2]) rfl
  obtain ⟨b, o, e, hbl, hc⟩ := hr.2 (by simp)
  refine ⟨by omega, by omega, fun j hj => ⟨b, o, e, hbl, ?_⟩, fun j hj => ?_, fun j hj => ?_, fun j hj => ?_, fun j hj => ?_⟩
  · rcases (by omega : j = 0 ∨ j = 1) with rfl | rfl
    · exact hc 0 _ rfl
    · exact hc 1 _ rfl
  · rcases (by omega : j = 0 ∨ j = 1) with rfl | rfl
    · exact h1.rd (xs := bs [97]) rfl
    · exact h2.rd (xs := bs [98, 99]) rfl
  · rcases (by omega : j = 0 ∨ j = 1) with rfl | rfl <;> simp
  · rcases (by omega : j = 0 ∨ j = 1) with rfl | rfl <;> simp
  · rcases (by omega : j = 0 ∨ j = 1) with rfl | rfl <;> simp [RB2]
theorem what_is : hbs (sb ⟨#[120]⟩) 2 RB2 = [0, 0, 0, 1, 120, 0, 0, 0, 2, 0, 0, 0, 1, 97, 0, 0, 0, 2, 98, 99] := by kernel_rfl

set_option maxHeartbeats 4000000 in
theorem alive6_ok (w : World) (T : Tabs w) : Calls Tryd.prog 20 #[] w fun e w' => e = .returned (.bool true) ∧ Below w.heap.size w w' := by
  have HT := Lib.hid T
  clear T
  have N1 : Hid (∀ u, Tabs u → Calls Tryd.prog 15 #[Nu.num 1, .string ⟨#[120]⟩, .slice none 0 0] u fun e w' => e = .returned (.tuple #[Nu.num 0, .int .i64 0]) ∧ Below u.heap.size u w') := Lib.hid (fun u T => by
    have := number_ok 1 (by decide) ⟨#[120]⟩ none 0 0 _ _ _ _ u (by decide) (by omega) (fun j hj => absurd hj (Nat.not_lt_zero _)) (fun _ => ⟨rfl, rfl⟩) (Rows2.none u) T
    rwa [show numOf 1 ⟨#[120]⟩ 0 (fun _ => []) = 0 from by unfold numOf; rw [if_neg (by decide), Nat.mod_one], show errOf 1 = 0 from rfl] at this)
  have N0 : Hid (∀ u, Tabs u → Calls Tryd.prog 15 #[Nu.num 0, .string ⟨#[120]⟩, .slice none 0 0] u fun e w' => e = .returned (.tuple #[Nu.num 0, .int .i64 1]) ∧ Below u.heap.size u w') := Lib.hid (fun u T => by
    have := number_ok 0 (by decide) ⟨#[120]⟩ none 0 0 _ _ _ _ u (by decide) (by omega) (fun j hj => absurd hj (Nat.not_lt_zero _)) (fun _ => ⟨rfl, rfl⟩) (Rows2.none u) T
    rwa [show numOf 0 ⟨#[120]⟩ 0 (fun _ => []) = 0 from rfl, show errOf 0 = 1 from rfl] at this)
  go_enter Tryd.func20, Tryd.ntmps20
  go_wp2_with fail
  refine (Nu.of1N w).mono ?_
  rintro e w1 ⟨rfl, b1⟩
  have T1 := Lib.hid (HT.out.on b1)
  have B1 := Lib.hid b1
  clear b1 HT
  go_wp2_with fail
  refine (N1.out _ T1.out).mono ?_
  rintro e w2 ⟨rfl, b2⟩
  have T2 := Lib.hid (T1.out.on b2)
  have B2 := Lib.hid (bel_tr B1.out b2)
  clear b2 T1 B1 N1
  go_wp2_with (first | (refine law_alloc (d := 1) (ty := 37) _ zero_num ?_; intro w3 N3; have H3 := Lib.hid N3; clear N3) | (refine law_store (ty := 37) w2.heap.size 0 _ (nv 0).toArray (nv 0) rfl rfl H3.out.at_ (Nat.le_refl _) size_num (nv_one 0) ?_; intro w4 P4; have b4 := H3.out.put P4; have E4 := Lib.hid (show At w4 w2.heap.size 37 (nv 0).toArray by have := P4.at_; rwa [put_all (nv 0) (nv 0) rfl] at this); have T4 := Lib.hid (T2.out.on b4); have B4 := Lib.hid (bel_tr B2.out b4); clear b4 P4 H3 T2 B2))
  generalize w2.heap.size = g1 at *
  refine (Nu.of0N _).mono ?_
  rintro e w5 ⟨rfl, b5⟩
  have T5 := Lib.hid (T4.out.on b5)
  have E5 := Lib.hid (E4.out.on b5)
  have B5 := Lib.hid (bel_tr B4.out b5)
  clear b5 T4 E4 B4
  go_wp2_with fail
  refine (N0.out _ T5.out).mono ?_
  rintro e w6 ⟨rfl, b6⟩
  have T6 := Lib.hid (T5.out.on b6)
  have E6 := Lib.hid (E5.out.on b6)
  have B6 := Lib.hid (bel_tr B5.out b6)
  clear b6 T5 E5 B5 N0
  go_wp2_with (first | (refine law_alloc (d := 3) (ty := 37) _ zero_num ?_; intro w7 N7; have H7 := Lib.hid N7; clear N7) | (refine law_store (ty := 37) w6.heap.size 0 _ (nv 0).toArray (nv 0) rfl rfl H7.out.at_ (Nat.le_refl _) size_num (nv_one 0) ?_; intro W3 P8; have b8 := H7.out.put P8; have E1 := Lib.hid (E6.out.on b8); have T3 := Lib.hid (T6.out.on b8); have B3 := Lib.hid (bel_tr B6.out b8); clear b8 P8 H7 T6 B6 E6))
  generalize w6.heap.size = g3 at *
  have EQN := Nu.eqY 0
  have HO : Hid (∀ g g1 g2 (u : World), Below W3.heap.size W3 u → Bk u g 22 #[.slice (some ⟨g1, 0, none⟩) 1 1, .slice (some ⟨g2, 0, none⟩) 2 2] → Bk u g1 5 (bs [97]).toArray → Bk u g2 5 (bs [98, 99]).toArray →
      Calls Tryd.prog 17 #[.string ⟨#[120]⟩, .slice (some ⟨g, 0, none⟩) 2 2] u fun e w' => e = .returned (.agg (bs (sha [0, 0, 0, 1, 120, 0, 0, 0, 2, 0, 0, 0, 1, 97, 0, 0, 0, 2, 98, 99])).toArray) ∧ Below u.heap.size u w') := Lib.hid (fun g g1 g2 u hb h0 h1 h2 => by
    have := hof_ok ⟨#[120]⟩ (some ⟨g, 0, none⟩) 2 2 _ _ _ _ u (by decide) (by omega) (fun j hj => by show (if j = 0 then 1 else 2) ≤ 1048576; split <;> omega) (rows_two h0 h1 h2) (T3.out.on hb)
    rwa [what_is] at this)
  have HS : Hid (∀ g fr (u : World), Below W3.heap.size W3 u → u.heap[g]? = some (.cells (bs [0, 0, 0, 1, 120, 0, 0, 0, 2, 0, 0, 0, 1, 97, 0, 0, 0, 2, 98, 99]).toArray 5 fr) →
      Calls Tryd.prog 12 #[.slice (some ⟨g, 0, none⟩) 20 20] u fun e w' => e = .returned (.agg (bs (sha [0, 0, 0, 1, 120, 0, 0, 0, 2, 0, 0, 0, 1, 97, 0, 0, 0, 2, 98, 99])).toArray) ∧ Below u.heap.size u w') := Lib.hid (fun g fr u hb h => of_ok _ 20 20 [0, 0, 0, 1, 120, 0, 0, 0, 2, 0, 0, 0, 1, 97, 0, 0, 0, 2, 98, 99] u (Bk.rd (xs := bs [0, 0, 0, 1, 120, 0, 0, 0, 2, 0, 0, 0, 1, 97, 0, 0, 0, 2, 98, 99]) ⟨fr, h⟩ rfl) (Nat.le_refl _) (by omega) (by decide) (T3.out.on hb) (by omega))
  have EQH := eqH (sha [0, 0, 0, 1, 120, 0, 0, 0, 2, 0, 0, 0, 1, 97, 0, 0, 0, 2, 98, 99]) (sha_len _)
  obtain ⟨xh, hxh⟩ : ∃ y, bs (sha [0, 0, 0, 1, 120, 0, 0, 0, 2, 0, 0, 0, 1, 97, 0, 0, 0, 2, 98, 99]) = y := ⟨_, rfl⟩
  rw [hxh] at HO HS EQH
  clear hxh T3
  try simp only [List.append_eq, List.cons_append, List.nil_append]
  refine wp_region_noPanic ?_
  refine wp_region_held_drew (S := fun w' => Below W3.heap.size W3 w') (by kernel_rfl) ((Below.refl _ _).drew) (fun _ => ?_)
  refine wpAnyH_cores (fuel := 1) (⟨0, 15, [], KB W3.heap.size [97] 1, false⟩ :: ⟨1, 16, [0], KB W3.heap.size [97] 1, false⟩ :: ⟨2, 17, [], KB W3.heap.size [98, 99] 2, false⟩ :: ⟨3, 18, [2], KB W3.heap.size [98, 99] 2, false⟩ :: ⟨4, 19, [1, 3], KR W3.heap.size, false⟩ :: ⟨5, 20, [4], Kind.val (.agg xh.toArray), false⟩ :: ⟨6, 21, [], KB W3.heap.size [0, 0, 0, 1, 120, 0, 0, 0, 2, 0, 0, 0, 1, 97, 0, 0, 0, 2, 98, 99] 20, false⟩ :: ⟨7, 22, [6], KB W3.heap.size [0, 0, 0, 1, 120, 0, 0, 0, 2, 0, 0, 0, 1, 97, 0, 0, 0, 2, 98, 99] 20, false⟩ :: ⟨8, 23, [5, 7], Kind.val (.agg xh.toArray), false⟩ :: ⟨9, 24, [5, 8], Kind.val (.bool true), true⟩ :: ⟨10, 25, [9], Kind.val (.bool true), true⟩ :: ⟨11, 26, [10], Kind.val (Nu.num 0), true⟩ :: ⟨12, 27, [10, 11], Kind.val (Nu.num 0), false⟩ :: ⟨13, 28, [10, 11, 12], Kind.val (.bool true), true⟩ :: ⟨14, 29, [10, 13], Kind.val (.bool true), true⟩ :: ⟨15, 30, [14], Kind.val (.bool true), true⟩ :: ⟨16, 31, [15], Kind.val (.int .i64 0), true⟩ :: ⟨17, 32, [15, 16], Kind.val (.bool true), true⟩ :: ⟨18, 33, [15, 17], Kind.val (.bool true), true⟩ :: ⟨19, 34, [18], Kind.val (.bool true), true⟩ :: ⟨20, 35, [19], Kind.val (.int .i64 1), true⟩ :: ⟨21, 36, [19, 20], Kind.val (.bool true), true⟩ :: ⟨22, 37, [19, 21], Kind.val (.bool true), true⟩ :: []) _ _ W3 _ ?_ ?_ ?_ ?_ ?_ ?_ ?_ ?_ ?_ ?_ ?_
  · rfl
  · kernel_rfl
  · exact of_decide_eq_true (by kernel_rfl)
  · exact all_cons ⟨_, by rfl, by rfl⟩ (all_cons ⟨_, by rfl, by rfl⟩ (all_cons ⟨_, by rfl, by rfl⟩ (all_cons ⟨_, by rfl, by rfl⟩ (all_cons ⟨_, by rfl, by rfl⟩ (all_cons ⟨_, by rfl, by rfl⟩ (all_cons ⟨_, by rfl, by rfl⟩ (all_cons ⟨_, by rfl, by rfl⟩ (all_cons ⟨_, by rfl, by rfl⟩ (all_cons ⟨_, by rfl, by rfl⟩ (all_cons ⟨_, by rfl, by rfl⟩ (all_cons ⟨_, by rfl, by rfl⟩ (all_cons ⟨_, by rfl, by rfl⟩ (all_cons ⟨_, by rfl, by rfl⟩ (all_cons ⟨_, by rfl, by rfl⟩ (all_cons ⟨_, by rfl, by rfl⟩ (all_cons ⟨_, by rfl, by rfl⟩ (all_cons ⟨_, by rfl, by rfl⟩ (all_cons ⟨_, by rfl, by rfl⟩ (all_cons ⟨_, by rfl, by rfl⟩ (all_cons ⟨_, by rfl, by rfl⟩ (all_cons ⟨_, by rfl, by rfl⟩ (all_cons ⟨_, by rfl, by rfl⟩ (all_nil)))))))))))))))))))))))
  · exact fun _ hb => hb
  · exact (Below.refl _ _).drew
  · kernel_rfl
  · exact fun _ _ _ _ _ h => h
  · refine all_cons ?_ (all_cons ?_ (all_cons ?_ (all_cons ?_ (all_cons ?_ (all_cons ?_ (all_cons ?_ (all_cons ?_ (all_cons ?_ (all_cons ?_ (all_cons ?_ (all_cons ?_ (all_cons ?_ (all_cons ?_ (all_cons ?_ (all_cons ?_ (all_cons ?_ (all_cons ?_ (all_cons ?_ (all_cons ?_ (all_cons ?_ (all_cons ?_ (all_cons ?_ (all_nil)))))))))))))))))))))))
    · exact core_pureAs _ (by rfl)
    · exact core_pureAs _ (by rfl)
    · exact core_pureAs _ (by rfl)
    · exact core_pureAs _ (by rfl)
    · exact core_pureAs _ (by rfl)
    · exact core_pureAs _ (by rfl)
    · exact core_pureAs _ (by rfl)
    · exact core_pureAs _ (by rfl)
    · exact core_pureAs _ (by rfl)
    · exact coreG_bin _ _ _ _ _ _ _ _ _ _ _ _ _ (by rfl) (by rfl) wants_none (known_core 5 20 _ _ (of_decide_eq_true (by rfl)) (by rfl) (by rfl) (by rfl)) (known_core 8 23 _ _ (of_decide_eq_true (by rfl)) (by rfl) (by rfl) (by rfl)) (fun ρ w hx hy => by simp only [execOp, hx, hy]; simp [go_sem, EQH])
    · exact coreG_move _ _ _ _ _ _ _ (by rfl) (by rfl) (wants_none) (known_core 9 24 _ _ (of_decide_eq_true (by rfl)) (by rfl) (by rfl) (by rfl))
    · exact coreG_held _ _ _ _ _ _ _ _ _ (by rfl) (by rfl) (wants_core 10 25 10 _ _ _ (by rfl) (by rfl) (by rfl) (known_core 10 25 _ _ (of_decide_eq_true (by rfl)) (by rfl) (by rfl) (by rfl)) _ (by rfl)) (known_old 1 _ (of_decide_eq_true (by rfl)) (by rfl)) (fun ρ w hx hS => load_run _ g1 0 (nv 0) _ hx (E1.out.on hS).all under_num rfl size_num)
    · exact core_pureAs _ (by rfl)
    · exact coreG_bin _ _ _ _ _ _ _ _ _ _ _ _ _ (by rfl) (by rfl) (wants_core 10 25 10 _ _ _ (by rfl) (by rfl) (by rfl) (known_core 10 25 _ _ (of_decide_eq_true (by rfl)) (by rfl) (by rfl) (by rfl)) _ (by rfl)) (known_core 11 26 _ _ (of_decide_eq_true (by rfl)) (by rfl) (by rfl) (by rfl)) (known_core 12 27 _ _ (of_decide_eq_true (by rfl)) (by rfl) (by rfl) (by rfl)) (fun ρ w hx hy => by simp only [execOp, hx, hy]; simp [go_sem, EQN])
    · exact coreG_pick _ _ _ _ _ _ _ _ _ _ _ _ (by rfl) (by rfl) wants_none (known_core 10 25 _ _ (of_decide_eq_true (by rfl)) (by rfl) (by rfl) (by rfl)) (known_core 13 28 _ _ (of_decide_eq_true (by rfl)) (by rfl) (by rfl) (by rfl)) (known_const _) (by rfl)
    · exact coreG_move _ _ _ _ _ _ _ (by rfl) (by rfl) (wants_none) (known_core 14 29 _ _ (of_decide_eq_true (by rfl)) (by rfl) (by rfl) (by rfl))
    · exact coreG_move _ _ _ _ _ _ _ (by rfl) (by rfl) (wants_core 15 30 15 _ _ _ (by rfl) (by rfl) (by rfl) (known_core 15 30 _ _ (of_decide_eq_true (by rfl)) (by rfl) (by rfl) (by rfl)) _ (by rfl)) (known_old 2 _ (of_decide_eq_true (by rfl)) (by rfl))
    · exact coreG_bin _ _ _ _ _ _ _ _ _ _ _ _ _ (by rfl) (by rfl) (wants_core 15 30 15 _ _ _ (by rfl) (by rfl) (by rfl) (known_core 15 30 _ _ (of_decide_eq_true (by rfl)) (by rfl) (by rfl) (by rfl)) _ (by rfl)) (known_core 16 31 _ _ (of_decide_eq_true (by rfl)) (by rfl) (by rfl) (by rfl)) (known_const _) (fun ρ w hx hy => by simp only [execOp, hx, hy]; simp [go_sem])
    · exact coreG_pick _ _ _ _ _ _ _ _ _ _ _ _ (by rfl) (by rfl) wants_none (known_core 15 30 _ _ (of_decide_eq_true (by rfl)) (by rfl) (by rfl) (by rfl)) (known_core 17 32 _ _ (of_decide_eq_true (by rfl)) (by rfl) (by rfl) (by rfl)) (known_const _) (by rfl)
    · exact coreG_move _ _ _ _ _ _ _ (by rfl) (by rfl) (wants_none) (known_core 18 33 _ _ (of_decide_eq_true (by rfl)) (by rfl) (by rfl) (by rfl))
    · exact coreG_move _ _ _ _ _ _ _ (by rfl) (by rfl) (wants_core 19 34 19 _ _ _ (by rfl) (by rfl) (by rfl) (known_core 19 34 _ _ (of_decide_eq_true (by rfl)) (by rfl) (by rfl) (by rfl)) _ (by rfl)) (known_old 4 _ (of_decide_eq_true (by rfl)) (by rfl))
    · exact coreG_bin _ _ _ _ _ _ _ _ _ _ _ _ _ (by rfl) (by rfl) (wants_core 19 34 19 _ _ _ (by rfl) (by rfl) (by rfl) (known_core 19 34 _ _ (of_decide_eq_true (by rfl)) (by rfl) (by rfl) (by rfl)) _ (by rfl)) (known_core 20 35 _ _ (of_decide_eq_true (by rfl)) (by rfl) (by rfl) (by rfl)) (known_const _) (fun ρ w hx hy => by simp only [execOp, hx, hy]; simp [go_sem])
    · exact coreG_pick _ _ _ _ _ _ _ _ _ _ _ _ (by rfl) (by rfl) wants_none (known_core 19 34 _ _ (of_decide_eq_true (by rfl)) (by rfl) (by rfl) (by rfl)) (known_core 21 36 _ _ (of_decide_eq_true (by rfl)) (by rfl) (by rfl) (by rfl)) (known_const _) (by rfl)
  · refine all_cons ?_ (all_cons ?_ (all_cons ?_ (all_cons ?_ (all_cons ?_ (all_cons ?_ (all_cons ?_ (all_cons ?_ (all_cons ?_ (all_cons ?_ (all_cons ?_ (all_cons ?_ (all_cons ?_ (all_cons ?_ (all_cons ?_ (all_cons ?_ (all_cons ?_ (all_cons ?_ (all_cons ?_ (all_cons ?_ (all_cons ?_ (all_cons ?_ (all_cons ?_ (all_nil)))))))))))))))))))))))
    · exact fun _ => coreK_run _ _ _ _ _ _ (by rfl) wants_none (by rfl) (fun vs w hl hb hp => by exact ⟨_, _, bld_b1, ⟨hb.trans (gr_alloc (Below.refl _ _) _ |>.mono hb.size), Soft.of (gr_alloc (Below.refl _ _) _)⟩, w.heap.size, rfl, hb.size, (0, 0), heap_alloc_new w _⟩)
    · exact fun _ => coreK_run _ _ _ _ _ _ (by rfl) wants_none (by rfl) (fun vs w hl hb hp => by obtain ⟨v15, hv15, hk15⟩ := is_core hl hp 0 15 _ (by simp) (by rfl) (by rfl); obtain ⟨g, rfl, hg, fr, hh⟩ := hk15; exact ⟨_, _, convM_run hv15 hh, step_mark hb hg hh, g, rfl, hg, freeze_at hh⟩)
    · exact fun _ => coreK_run _ _ _ _ _ _ (by rfl) wants_none (by rfl) (fun vs w hl hb hp => by exact ⟨_, _, bld_b2, ⟨hb.trans (gr_alloc (Below.refl _ _) _ |>.mono hb.size), Soft.of (gr_alloc (Below.refl _ _) _)⟩, w.heap.size, rfl, hb.size, (0, 0), heap_alloc_new w _⟩)
    · exact fun _ => coreK_run _ _ _ _ _ _ (by rfl) wants_none (by rfl) (fun vs w hl hb hp => by obtain ⟨v17, hv17, hk17⟩ := is_core hl hp 2 17 _ (by simp) (by rfl) (by rfl); obtain ⟨g, rfl, hg, fr, hh⟩ := hk17; exact ⟨_, _, convM_run hv17 hh, step_mark hb hg hh, g, rfl, hg, freeze_at hh⟩)
    · exact fun _ => coreK_run _ _ _ _ _ _ (by rfl) wants_none (by rfl) (fun vs w hl hb hp => by obtain ⟨v16, hv16, hk16⟩ := is_core hl hp 1 16 _ (by simp) (by rfl) (by rfl); obtain ⟨v18, hv18, hk18⟩ := is_core hl hp 3 18 _ (by simp) (by rfl) (by rfl); obtain ⟨g1, rfl, _, fr1, h1⟩ := hk16; obtain ⟨g2, rfl, _, fr2, h2⟩ := hk18; exact ⟨_, _, bld_r hv16 hv18, ⟨hb.trans (gr_alloc (Below.refl _ _) _ |>.mono hb.size), Soft.of (gr_alloc (Below.refl _ _) _)⟩, w.heap.size, g1, g2, rfl, ⟨(0, 0), heap_alloc_new w _⟩, (Soft.of (gr_alloc (Below.refl _ _) _)).cells _ _ _ _ h1, (Soft.of (gr_alloc (Below.refl _ _) _)).cells _ _ _ _ h2⟩)
    · exact fun _ => coreK_call _ 17 _ _ [.const (.string ⟨#[120]⟩), .tmp 19] _ _ _ _ _ (by rfl) Tryd.func17 (by kernel_rfl) (by rfl) wants_none (by rfl) (fun vs w hl hb hp => by obtain ⟨v19, hv19, hk19⟩ := is_core hl hp 4 19 _ (by simp) (by rfl) (by rfl); obtain ⟨g, g1, g2, rfl, h0, h1, h2⟩ := hk19; exact ⟨_, map_two rfl hv19, (HO.out g g1 g2 w hb h0 h1 h2).mono fun e w2 ⟨he, hb2⟩ => ⟨_, he, hb2, rfl⟩⟩)
    · exact fun _ => coreK_run _ _ _ _ _ _ (by rfl) wants_none (by rfl) (fun vs w hl hb hp => by exact ⟨_, _, bld_b20, ⟨hb.trans (gr_alloc (Below.refl _ _) _ |>.mono hb.size), Soft.of (gr_alloc (Below.refl _ _) _)⟩, w.heap.size, rfl, hb.size, (0, 0), heap_alloc_new w _⟩)
    · exact fun _ => coreK_run _ _ _ _ _ _ (by rfl) wants_none (by rfl) (fun vs w hl hb hp => by obtain ⟨v21, hv21, hk21⟩ := is_core hl hp 6 21 _ (by simp) (by rfl) (by rfl); obtain ⟨g, rfl, hg, fr, hh⟩ := hk21; exact ⟨_, _, convM_run hv21 hh, step_mark hb hg hh, g, rfl, hg, freeze_at hh⟩)
    · exact fun _ => coreK_call _ 12 _ _ [.tmp 22] _ _ _ _ _ (by rfl) Tryd.func12 (by kernel_rfl) (by rfl) wants_none (by rfl) (fun vs w hl hb hp => by obtain ⟨v22, hv22, hk22⟩ := is_core hl hp 7 22 _ (by simp) (by rfl) (by rfl); obtain ⟨g, rfl, _, fr, h0⟩ := hk22; exact ⟨_, map_one hv22, (HS.out g fr w hb h0).mono fun e w2 ⟨he, hb2⟩ => ⟨_, he, hb2, rfl⟩⟩)
    · exact core_stepAs _ (by rfl)
    · exact core_stepAs _ (by rfl)
    · exact core_stepAs _ (by rfl)
    · exact fun _ => coreG_callB _ 25 _ _ [.const (.int .u64 0)] _ _ _ _ _ _ _ (by rfl) Tryd.func25 (by kernel_rfl) (by rfl) (by rfl) (wants_core 10 25 10 _ _ _ (by rfl) (by rfl) (by rfl) (known_core 10 25 _ _ (of_decide_eq_true (by rfl)) (by rfl) (by rfl) (by rfl)) _ (by rfl)) (.cons (known_const _) .nil) (fun u hb => Nu.of0N u)
    · exact core_stepAs _ (by rfl)
    · exact core_stepAs _ (by rfl)
    · exact core_stepAs _ (by rfl)
    · exact core_stepAs _ (by rfl)
    · exact core_stepAs _ (by rfl)
    · exact core_stepAs _ (by rfl)
    · exact core_stepAs _ (by rfl)
    · exact core_stepAs _ (by rfl)
    · exact core_stepAs _ (by rfl)
    · exact core_stepAs _ (by rfl)
  intro vs y9 hc
  have BZ := B3.out.trans (hc.bel.mono B3.out.size)
  refine assign_one (i := 23) (.tmp 37) 0 _ _ _ (.bool true) (by kernel_rfl) (by rfl) (hc.at_ (of_decide_eq_true (by kernel_rfl)) (by rfl) 22 37 _ (.bool true) (by rfl) (by rfl) (by rfl)) (hc.bel) ?_
  refine wpAnyH_done (by kernel_rfl) ?_ _
  refine NoPanic.normal ?_
  generalize hA : Act.put (over _ _ vs) (some 0) (.bool true) = A
  have hA0 : A.tmps.getD 0 undef = .bool true := by rw [← hA]; exact put_at _ _ _ (by rw [over_size]; exact Nat.le_of_ble_eq_true rfl)
  have hAd : A.defers = [] := by rw [← hA, put_defers, over_defers]
  clear hA hc
  go_wp2_with fail
  refine bodyPost_ret (v := .bool true) (by simp [results, Tryd.results20, go_sem] at hA0 ⊢; simp [hA0]) hAd ⟨rfl, BZ⟩
end Go.Proofs.YtkmjfaaelkmnkaaDoor.Sf
