/-
  PrimesTurned: rows of reasons that are appended to, and stored into; the lists that come of it.
-/
import Derived.Deep.Cut
import Derived.Maps.AppendAt
import Derived.Test.YtodlpmepoakdlaaVAlive7
import Derived.Test.YtodlpmepoakdlaaVCells
import Derived.Test.YtodlpmepoakdlaaVSc
import Derived.Test.YtodlpmepoakdlaaVSizeR
import Derived.Test.YtodlpmepoakdlaaVSmall
import Derived.Test.YtodlpmepoakdlaaVSxD
import Derived.Test.YtodlpmepoakdlaaVSxF
import Derived.Test.YtodlpmepoakdlaaVTwinP
namespace Go.Proofs.Ytodlpmepoakdlaa
set_option maxRecDepth 100000
open Go.RowKit
set_option linter.unusedSimpArgs false
set_option linter.unusedVariables false
attribute [local go_sem ↓] Go.wp_at_zero Go.wp_at_succ

open Pr (Rsn)
section
variable {x y : Operand} {dst : Option Tmp} {ty : TypeId} {pos : String} {after : Array Edge} {guard : Option (Nat × Bool)} {ρ : Operand → Value} {w : World} {g o : Nat}
theorem wrapI {m : Nat} (h : m < 4611686018427387904) : IntKind.i64.wrap (m : Int) = (m : Int) := by
  have := IntKind.wrap_i64 (m : Int)
  rw [this]; omega
theorem o_subI {m k : Nat} (hk : k ≤ m) (hm : m < 4611686018427387904) (hx : ρ x = .int .i64 (m : Nat)) (hy : ρ y = .int .i64 (k : Nat)) : (execOp ρ ⟨dst, .binOp .sub 3 x y 3, ty, pos, after, guard⟩).run Try.prog w = .ok (.value (.int .i64 ((m - k : Nat) : Int))) w := by
  have h1 : IntKind.i64.wrap ((m : Int) - (k : Int)) = ((m - k : Nat) : Int) := by rw [show (m : Int) - (k : Int) = ((m - k : Nat) : Int) by omega]; exact wrapI (by omega)
  simp only [execOp, hx, hy]
  simp [go_sem, h1]
theorem o_addI {m k : Nat} (hm : m + k < 4611686018427387904) (hx : ρ x = .int .i64 (m : Nat)) (hy : ρ y = .int .i64 (k : Nat)) : (execOp ρ ⟨dst, .binOp .add 3 x y 3, ty, pos, after, guard⟩).run Try.prog w = .ok (.value (.int .i64 ((m + k : Nat) : Int))) w := by
  have h1 : IntKind.i64.wrap ((m : Int) + (k : Int)) = (m : Int) + (k : Int) := by rw [show (m : Int) + (k : Int) = ((m + k : Nat) : Int) by omega]; exact wrapI hm
  simp only [execOp, hx, hy]
  simp [go_sem, h1]
theorem o_conv8 {m : Nat} (hm : m < 256) (hx : ρ x = .int .u8 (m : Nat)) : (execOp ρ ⟨dst, .convert 5 3 x, ty, pos, after, guard⟩).run Try.prog w = .ok (.value (.int .i64 (m : Nat))) w := by
  have h1 := wrapI (m := m) (by omega)
  simp [execOp, hx, go_sem, h1]
theorem o_remN {m k : Nat} (hk : 0 < k) (hm : m < 4611686018427387904) (hx : ρ x = .int .i64 (m : Nat)) (hy : ρ y = .int .i64 (k : Nat)) : (execOp ρ ⟨dst, .binOp .rem 3 x y 3, ty, pos, after, guard⟩).run Try.prog w = .ok (.value (.int .i64 ((m % k : Nat) : Int))) w := by
  have h0 : ¬ ((k : Int) = 0) := by omega
  have h0' : ¬ (k = 0) := by omega
  have h2 : Int.tmod (m : Int) (k : Int) = ((m % k : Nat) : Int) := by rw [Int.tmod_eq_emod_of_nonneg (by omega)]; rfl
  have h1 : IntKind.i64.wrap ((m % k : Nat) : Int) = ((m % k : Nat) : Int) := wrapI (Nat.lt_of_le_of_lt (Nat.mod_le _ _) hm)
  simp only [execOp, hx, hy]
  simp [go_sem, h0, h0', h2]
  try exact h1
theorem o_lenR {a : Option Addr} {l cap : Nat} (hx : ρ x = .slice a l cap) : (execOp ρ ⟨dst, .call ⟨.builtin .len, #[x], #[25]⟩, ty, pos, after, guard⟩).run Try.prog w = .ok (.value (.int .i64 (l : Nat))) w := lenR x dst ty pos after guard ρ w a l cap hx
theorem o_idxR {i l cap : Nat} (hi : i < l) (hx : ρ x = .slice (some ⟨g, o, none⟩) l cap) (hy : ρ y = .int .i64 (i : Nat)) : (execOp ρ ⟨dst, .indexAddr 25 x y, ty, pos, after, guard⟩).run Try.prog w = .ok (.value (.pointer (some ⟨g, o + i * 9, none⟩))) w := idxR x y dst ty pos after guard ρ w g o i l cap hi hx hy
theorem o_loadC9 {n v : Nat} {s : Value} (hx : ρ x = .pointer (some ⟨g, o, none⟩)) (h : C9 w g o n v s) : (execOp ρ ⟨dst, .load 27 x, ty, pos, after, guard⟩).run Try.prog w = .ok (.value (rv n v s)) w := loadC x dst ty pos after guard ρ w g o n v s hx h
theorem o_cutToR {k l cap : Nat} (hk : k ≤ cap) (h0 : 0 < cap) (hx : ρ x = .slice (some ⟨g, o, none⟩) l cap) (hy : ρ y = .int .i64 (k : Nat)) : (execOp ρ ⟨dst, .slice 25 x none (some y) none, ty, pos, after, guard⟩).run Try.prog w = .ok (.value (.slice (some ⟨g, o, none⟩) k cap)) w := by
  have h1 : (k : Int) ≤ (cap : Int) := by omega
  have h2 : ¬ cap = 0 := by omega
  simp [execOp, hx, hy, go_sem, h1, h2, Addr.add_lit]
theorem o_cutFromR {k l cap fo : Nat} (hk : k ≤ l) (hl : l ≤ cap) (hfo : fo = if cap = k then 0 else k * 9) (hx : ρ x = .slice (some ⟨g, o, none⟩) l cap) (hy : ρ y = .int .i64 (k : Nat)) : (execOp ρ ⟨dst, .slice 25 x (some y) none none, ty, pos, after, guard⟩).run Try.prog w = .ok (.value (.slice (some ⟨g, o + fo, none⟩) (l - k) (cap - k))) w := by
  have h1 : (k : Int) ≤ (l : Int) := by omega
  have h2 : (l : Int) ≤ (cap : Int) := by omega
  subst hfo
  by_cases h : cap = k
  · simp [execOp, hx, hy, go_sem, h1, h2, h]
  · simp [execOp, hx, hy, go_sem, h1, h2, h, Addr.add_lit]
theorem o_fieldR1 (hx : ρ x = .pointer (some ⟨g, 0, none⟩)) : (execOp ρ ⟨dst, .fieldAddr 27 x 1, ty, pos, after, guard⟩).run Try.prog w = .ok (.value (.pointer (some ⟨g, 4, none⟩))) w := by simp [execOp, hx, go_sem]
theorem o_fieldR2 (hx : ρ x = .pointer (some ⟨g, 0, none⟩)) : (execOp ρ ⟨dst, .fieldAddr 27 x 2, ty, pos, after, guard⟩).run Try.prog w = .ok (.value (.pointer (some ⟨g, 8, none⟩))) w := by simp [execOp, hx, go_sem]
theorem o_loadRP {N Y : Nat} {s : Value} (hx : ρ x = .pointer (some ⟨g, 8, none⟩)) (h : At w g 27 (rcs N Y s)) : (execOp ρ ⟨dst, .load 25 x, ty, pos, after, guard⟩).run Try.prog w = .ok (.value s) w := by
  have c0 : w.cell? ⟨g, 8, none⟩ = some s := h.cell 8
  simp [execOp, hx, go_sem, c0]
theorem o_storeRP {N Y : Nat} {s u : Value} {pa : Option Addr} {l cap : Nat} (hx : ρ x = .pointer (some ⟨g, 8, none⟩)) (hy : ρ y = u) (hu : u = .slice pa l cap) (h : At w g 27 (rcs N Y s)) : (execOp ρ ⟨dst, .store 25 x y, ty, pos, after, guard⟩).run Try.prog w = .ok .skip (puts w g 8 [u]) := by
  subst hu
  have c0 : w.cell? ⟨g, 8, none⟩ = some s := h.cell 8
  have f0 : w.frozen? ⟨g, 8, none⟩ = false := h.frozen 8
  simp [execOp, hx, hy, go_sem, puts, c0, f0]
theorem o_storeRW {N Y V : Nat} {s : Value} (hx : ρ x = .pointer (some ⟨g, 4, none⟩)) (hy : ρ y = num V) (h : At w g 27 (rcs N Y s)) : (execOp ρ ⟨dst, .store 24 x y, ty, pos, after, guard⟩).run Try.prog w = .ok .skip (puts w g 4 [.int .u64 (wd V 0 : Nat), .int .u64 (wd V 1 : Nat), .int .u64 (wd V 2 : Nat), .int .u64 (wd V 3 : Nat)]) := by
  have c0 : w.cell? ⟨g, 4, none⟩ = some (.int .u64 (wd Y 0 : Nat)) := h.cell 4
  have c1 : w.cell? ⟨g, 5, none⟩ = some (.int .u64 (wd Y 1 : Nat)) := h.cell 5
  have c2 : w.cell? ⟨g, 6, none⟩ = some (.int .u64 (wd Y 2 : Nat)) := h.cell 6
  have c3 : w.cell? ⟨g, 7, none⟩ = some (.int .u64 (wd Y 3 : Nat)) := h.cell 7
  have f0 : w.frozen? ⟨g, 4, none⟩ = false := h.frozen 4
  have f1 : w.frozen? ⟨g, 5, none⟩ = false := h.frozen 5
  have f2 : w.frozen? ⟨g, 6, none⟩ = false := h.frozen 6
  have f3 : w.frozen? ⟨g, 7, none⟩ = false := h.frozen 7
  simp [execOp, hx, hy, go_sem, puts, c0, c1, c2, c3, f0, f1, f2, f3]
theorem o_slice9 {n v : Nat} {a : Option Addr} {l c : Nat} (hx : ρ x = rv n v (.slice a l c)) : (execOp ρ ⟨dst, .buildSlice 25 1 #[(0, x)], ty, pos, after, guard⟩).run Try.prog w = .ok (.value (.slice (some ⟨w.heap.size, 0, none⟩) 1 1)) (w.alloc (.cells (nine n v (.slice a l c)).toArray 27)) := by
  simp [execOp, hx, go_sem, nine]
theorem o_storeC9 {n v : Nat} {a : Option Addr} {l c : Nat} {u0 u1 u2 u3 u4 u5 u6 u7 u8 : Value} (hx : ρ x = .pointer (some ⟨g, o, none⟩)) (hy : ρ y = rv n v (.slice a l c)) (h0 : w.cell? ⟨g, o, none⟩ = some u0) (h1 : w.cell? ⟨g, o + 1, none⟩ = some u1) (h2 : w.cell? ⟨g, o + 2, none⟩ = some u2) (h3 : w.cell? ⟨g, o + 3, none⟩ = some u3) (h4 : w.cell? ⟨g, o + 4, none⟩ = some u4) (h5 : w.cell? ⟨g, o + 5, none⟩ = some u5) (h6 : w.cell? ⟨g, o + 6, none⟩ = some u6) (h7 : w.cell? ⟨g, o + 7, none⟩ = some u7) (h8 : w.cell? ⟨g, o + 8, none⟩ = some u8) (hf : ∀ k, w.frozen? ⟨g, k, none⟩ = false) : (execOp ρ ⟨dst, .store 27 x y, ty, pos, after, guard⟩).run Try.prog w = .ok .skip (puts w g o (nine n v (.slice a l c))) := by
  have f0 := hf (o)
  have f1 := hf (o + 1)
  have f2 := hf (o + 2)
  have f3 := hf (o + 3)
  have f4 := hf (o + 4)
  have f5 := hf (o + 5)
  have f6 := hf (o + 6)
  have f7 := hf (o + 7)
  have f8 := hf (o + 8)
  simp [execOp, hx, hy, go_sem, nine, puts, Nat.add_assoc, h0, f0, h1, f1, h2, f2, h3, f3, h4, f4, h5, f5, h6, f6, h7, f7, h8, f8]
end

/-- a slice of reasons that lies in a row of its own, from base on, as cells -/
def NR9 (base : Nat) (w : World) (v : Value) (n : Nat) (xs : List Value) : Prop := w.ownsRow base 27 9 v n xs
theorem Try.infoR : (Try.prog.info? 27).map (fun i => (i.zero, i.size, i.bytes)) = some (some (.agg #[.int .u64 0, .int .u64 0, .int .u64 0, .int .u64 0, .int .u64 0, .int .u64 0, .int .u64 0, .int .u64 0, .slice none 0 0]), 9, 88) := by kernel_rfl
section
variable {ops : Array Oper} {Q : Exit → Act → World → Prop} {S : World → Prop} {a : Act} {n0 : Nat} {w w0 : World} {N : Nat} {L : List (Nat × Value)} {df : List Deferred} {M : List (Nat × TypeId × Array Value)}
theorem run_app9 {base n m c d : Nat} {v : Value} {xs news : List Value} {ad : Addr} {s x : Operand} {ty : TypeId} {pos : String} {after : Array Edge} (hv : NR9 base w v n xs) (hs : a.eval s = v) (hx : a.eval x = .slice (some ad) m c)
    (hl : news.length = m * 9) (hnews : ∀ j u, news[j]? = some u → w.cell? (ad.add j) = some u) (h1 : ∀ u ∈ news, u.oneCell' = true) (hn : n + m ≤ 1000) (hb : base ≤ w.heap.size) :
    ∃ v' w', (execOp a.eval ⟨some d, .call { callee := .builtin .append, args := #[s, x], argTypes := #[25, 25] }, ty, pos, after, none⟩).run Try.prog w = .ok (.value v') w' ∧ NR9 base w' v' (n + m) (xs ++ news) ∧ w.grownBy w' v.ownBlock ∧ (v'.ownBlock = v.ownBlock ∨ v'.ownBlock = some w.heap.size) := by
  obtain ⟨i0, hi, hz0, hz1, hz2⟩ := info_parts Try.infoR
  obtain ⟨v', w', hr, h2, h3, _, h5⟩ := run_append_own_at (P := Try.prog) w base 25 ty 27 i0 _ 9 88 Try.underlying25 hi hz0 hz1 hz2 rfl (by decide) v n xs hv ad m c news hl hnews h1 (by unfold maxLen; omega) (by omega) hb
  refine ⟨v', w', ?_, h2, h3, h5⟩
  unfold execOp
  simp only [resolve, invoke, builtin, Sem.run_bind, Sem.run_pure, Result.andThen_ok, List.map_toArray, List.map_cons, List.map_nil, hs, hx, hr]
theorem Mem.row9 {base n : Nat} {w' : World} {v : Value} {xs : List Value} (H : Mem n0 w0 w M) (hv : NR9 base w v n xs) (hg : w.grownBy w' v.ownBlock) (hM : ∀ x ∈ M, x.1 < base) (hb : n0 ≤ base) : Mem n0 w0 w' M := by
  have hlt := World.ownsRow.lt hv
  refine ⟨H.le, H.bel.grown hg (Nat.le_trans H.le H.bel.size) (fun r e => Nat.le_trans hb (hlt r e).1), H.oth.trans (KeepsOthers.of_grownBy hg fun j o hj ho => ?_), fun x hx => ?_, H.own, H.nd⟩
  · rcases hv.2 with ⟨rfl, _⟩ | ⟨g, cap, cur, rfl, _, hc, _⟩
    · cases hj
    · cases hj; rw [hc] at ho; cases ho; rfl
  · have h := H.at_ x hx
    exact (hg.block x.1 h.lt (fun e => by have := (hlt x.1 e.symm).1; have := hM x hx; omega)).trans h
theorem app9_one {base n m c d i fuel : Nat} {listed : Array Bool} {v : Value} {xs news : List Value} {ad : Addr} {s x : Operand} {ty : TypeId} {pos : String} {after : Array Edge} (F : Fr a N L df) (H : Mem n0 w0 w M) (hr : Region.ready .any ops listed = [i])
    (ho : ops[i]? = some ⟨some d, .call { callee := .builtin .append, args := #[s, x], argTypes := #[25, 25] }, ty, pos, after, none⟩) (hd : Nat.blt d N = true) (hv : NR9 base w v n xs) (hs : a.eval s = v) (hx : a.eval x = .slice (some ad) m c)
    (hl : news.length = m * 9) (hnews : ∀ j u, news[j]? = some u → w.cell? (ad.add j) = some u) (h1 : ∀ u ∈ news, u.oneCell' = true) (hn : n + m ≤ 1000) (hb : base ≤ w.heap.size) (hM : ∀ x ∈ M, x.1 < base) (hb0 : n0 ≤ base) (hSM : ∀ w', Mem n0 w0 w' M → S w')
    (h : ∀ a' w' v', Fr a' N ((d, v') :: L) df → Mem n0 w0 w' M → NR9 base w' v' (n + m) (xs ++ news) → base ≤ w'.heap.size → wpAnyH Try.prog .any ops Q S fuel (listed.setIfInBounds i true) a' w') : wpAnyH Try.prog .any ops Q S (fuel + 1) listed a w := by
  obtain ⟨v', w', hrun, h2, h3, h4⟩ := run_app9 (d := d) (ty := ty) (pos := pos) (after := after) hv hs hx hl hnews h1 hn hb
  have H' := H.row9 hv h3 hM hb0
  exact wpAnyH_one hr ho fun K hK => want_none rfl (wp_of_run_value hrun (hK.out _ _ (hSM _ H') (h _ _ _ (F.put v' hd) H' h2 (Nat.le_trans hb h3.size))))
theorem Fr.swap {d e : Nat} {u v : Value} (hde : d ≠ e) (F : Fr a N ((d, u) :: (e, v) :: L) df) : Fr a N ((e, v) :: (d, u) :: L) df := by
  refine ⟨F.size, F.defers, fun s x h => F.get s x ?_⟩
  by_cases h1 : d = s
  · subst h1
    have h2 : Nat.beq e d = false := Bool.eq_false_iff.2 fun h => hde (Nat.eq_of_beq_eq_true h).symm
    simp [lk, h2] at h ⊢; exact h
  · have h2 : Nat.beq d s = false := Bool.eq_false_iff.2 fun h => h1 (Nat.eq_of_beq_eq_true h)
    simp only [lk, h2, cond_false] at h ⊢; exact h
def slotOf : Operand → Nat
  | .tmp t => t
  | _ => 0
/-- a row appended to nil, and a row of one, in either order -/
theorem two_new {m c d e i j fuel N1 Y1 : Nat} {pa : Option Addr} {la ca : Nat} {listed : Array Bool} {news : List Value} {ad : Addr} {s x z : Operand} {ty ty2 : TypeId} {pos pos2 : String} {after after2 : Array Edge} (F : Fr a N L df) (H : Mem n0 w0 w M)
    (hr : Region.ready .any ops listed = [i, j]) (hr1 : Region.ready .any ops (listed.setIfInBounds i true) = [j]) (hr2 : Region.ready .any ops (listed.setIfInBounds j true) = [i]) (hij : i ≠ j) (hde : d ≠ e)
    (hoi : ops[i]? = some ⟨some d, .call { callee := .builtin .append, args := #[s, x], argTypes := #[25, 25] }, ty, pos, after, none⟩) (hoj : ops[j]? = some ⟨some e, .buildSlice 25 1 #[(0, z)], ty2, pos2, after2, none⟩)
    (hd : Nat.blt d N = true) (he : Nat.blt e N = true) (hs : s = .const (.slice none 0 0)) (hx : lk L (slotOf x) = some (.slice (some ad) m c)) (hxt : x = .tmp (slotOf x)) (hxd : (slotOf x) ≠ d ∧ (slotOf x) ≠ e) (hz : lk L (slotOf z) = some (rv N1 Y1 (.slice pa la ca))) (hzt : z = .tmp (slotOf z)) (hzd : (slotOf z) ≠ d ∧ (slotOf z) ≠ e)
    (hl : news.length = m * 9) (hnews : ∀ u, Below w.heap.size w u → ∀ j v, news[j]? = some v → u.cell? (ad.add j) = some v) (h1 : ∀ u ∈ news, u.oneCell' = true) (hn : m ≤ 1000) (hSM : ∀ w', Mem n0 w0 w' M → S w')
    (h : ∀ a' w' v gB, Fr a' N ((d, v) :: (e, .slice (some ⟨gB, 0, none⟩) 1 1) :: L) df → Mem n0 w0 w' M → NR9 w.heap.size w' v m news → At w' gB 27 (nine N1 Y1 (.slice pa la ca)).toArray → w.heap.size ≤ w'.heap.size → wpAnyH Try.prog .any ops Q S fuel ((listed.setIfInBounds i true).setIfInBounds j true) a' w') : wpAnyH Try.prog .any ops Q S (fuel + 2) listed a w := by
  have far : ∀ {k : Nat} {u v : Value} {t : Nat}, t ≠ k → lk L t = some v → lk ((k, u) :: L) t = some v := fun {k u v t} hk h => by
    have h2 : Nat.beq k t = false := Bool.eq_false_iff.2 fun h => hk (Nat.eq_of_beq_eq_true h).symm
    simp only [lk, h2, cond_false]; exact h
  have nil : ∀ u, NR9 w.heap.size u (.slice none 0 0) 0 [] := fun u => World.ownsRow_nil u w.heap.size _ 9
  refine wpAnyH_ready hr (by simp) (AllReadyH.cons hoi (fun K hK => want_none rfl ?_) (AllReadyH.cons hoj (fun K hK => want_none rfl ?_) AllReadyH.nil))
  · obtain ⟨v', w1, hrun, h2, h3, h4⟩ := run_app9 (a := a) (d := d) (ty := ty) (pos := pos) (after := after) (s := s) (x := x) (nil w) (by rw [hs]; rfl) (by rw [hxt]; exact F.ev hx) hl (hnews w (Below.refl _ _)) h1 (by omega) (Nat.le_refl _)
    have B1 : Below w.heap.size w w1 := (Below.refl _ _).grown h3 (Nat.le_refl _) (fun k e => by cases e)
    have H1 := H.on B1
    have F1 := F.put v' hd
    have B2 : Below w1.heap.size w1 (w1.alloc (.cells (nine N1 Y1 (.slice pa la ca)).toArray 27)) := (Below.refl _ _).alloc (Nat.le_refl _) _
    refine wp_of_run_value hrun (hK.out _ _ (hSM _ H1) fun _ => wpAnyH_one hr1 hoj fun K2 hK2 => want_none rfl (wp_of_run_value (o_slice9 (by rw [hzt]; exact F1.ev (far hzd.1 hz))) (hK2.out _ _ (hSM _ (H1.on B2)) ?_)))
    refine h _ _ v' w1.heap.size (Fr.swap hde.symm (F1.put _ he)) (H1.on B2) ?_ (At.new _ _ _) (Nat.le_trans B1.size B2.size)
    have := World.ownsRow.kept h2 (World.grownBy_alloc w1 (.cells (nine N1 Y1 (.slice pa la ca)).toArray 27) none) (by rcases hb : v'.ownBlock with _ | k; exact Or.inl rfl; exact Or.inr (fun e => by cases e))
    simpa [NR9] using this
  · have B1 : Below w.heap.size w (w.alloc (.cells (nine N1 Y1 (.slice pa la ca)).toArray 27)) := (Below.refl _ _).alloc (Nat.le_refl _) _
    have H1 := H.on B1
    refine wp_of_run_value (o_slice9 (by rw [hzt]; exact F.ev hz)) (hK.out _ _ (hSM _ H1) fun _ => ?_)
    have F1 := F.put (.slice (some ⟨w.heap.size, 0, none⟩) 1 1) he
    have hat := At.new w 27 (nine N1 Y1 (.slice pa la ca)).toArray
    generalize (w.alloc (.cells (nine N1 Y1 (.slice pa la ca)).toArray 27)) = w1 at *
    generalize hA : (a.put (some e) (.slice (some ⟨w.heap.size, 0, none⟩) 1 1)) = a1 at *
    obtain ⟨v', w2, hrun, h2, h3, h4⟩ := run_app9 (a := a1) (d := d) (ty := ty) (pos := pos) (after := after) (s := s) (x := x) (base := w.heap.size) (nil w1) (by rw [hs]; rfl) (by rw [hxt]; exact F1.ev (far hxd.2 hx)) hl (hnews w1 B1) h1 (by omega) B1.size
    have B2 : Below w1.heap.size w1 w2 := (Below.refl _ _).grown h3 (Nat.le_refl _) (fun k e => by cases e)
    have B3 : Below w.heap.size w w2 := B1.trans (B2.mono B1.size)
    refine wpAnyH_one hr2 hoi fun K2 hK2 => want_none rfl (wp_of_run_value hrun (hK2.out _ _ (hSM _ (H1.on B2)) ?_))
    have := h _ _ v' w.heap.size (F1.put _ hd) (H1.on B2) (by simpa [NR9] using h2) (hat.on B2) B3.size
    rwa [Array.setIfInBounds_comm _ _ hij] at this
end
end Go.Proofs.Ytodlpmepoakdlaa
