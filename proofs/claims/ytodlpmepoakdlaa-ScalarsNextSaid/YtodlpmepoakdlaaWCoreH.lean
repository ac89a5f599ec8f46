/-
  The same rules for blocks of divides.held, four words as well; arithmetic among the operations.
-/
import Derived.Test.YtodlpmepoakdlaaWCore
namespace Go.Proofs.Ytodlpmepoakdlaa
set_option maxRecDepth 100000
open Go.RowKit
set_option linter.unusedSimpArgs false
set_option linter.unusedVariables false

theorem store_runH (x y : Operand) (dst : Option Tmp) (ty : TypeId) (pos : String) (after : Array Edge) (guard : Option (Nat × Bool)) (ρ : Operand → Value) (w : World) (g : Nat) (u0 u1 u2 u3 : Value) (a b c d : Int)
    (hx : ρ x = .pointer (some ⟨g, 0, none⟩)) (hy : ρ y = .agg #[.int .u64 a, .int .u64 b, .int .u64 c, .int .u64 d]) (h : At w g 100 #[u0, u1, u2, u3]) :
    (execOp ρ ⟨dst, .store 100 x y, ty, pos, after, guard⟩).run Try.prog w = .ok .skip (put4 w g (.int .u64 a) (.int .u64 b) (.int .u64 c) (.int .u64 d)) := by
  have c0 : w.cell? ⟨g, 0, none⟩ = some u0 := h.cell 0
  have c1 : w.cell? ⟨g, 1, none⟩ = some u1 := h.cell 1
  have c2 : w.cell? ⟨g, 2, none⟩ = some u2 := h.cell 2
  have c3 : w.cell? ⟨g, 3, none⟩ = some u3 := h.cell 3
  have f0 : w.frozen? ⟨g, 0, none⟩ = false := h.frozen 0
  have f1 : w.frozen? ⟨g, 1, none⟩ = false := h.frozen 1
  have f2 : w.frozen? ⟨g, 2, none⟩ = false := h.frozen 2
  have f3 : w.frozen? ⟨g, 3, none⟩ = false := h.frozen 3
  unfold put4
  simp [execOp, hx, hy, go_sem, c0, c1, c2, c3, f0, f1, f2, f3]


theorem load_runH (x : Operand) (dst : Option Tmp) (ty : TypeId) (pos : String) (after : Array Edge) (guard : Option (Nat × Bool)) (ρ : Operand → Value) (w : World) (g : Nat) (u0 u1 u2 u3 : Value)
    (hx : ρ x = .pointer (some ⟨g, 0, none⟩)) (h : At w g 100 #[u0, u1, u2, u3]) :
    (execOp ρ ⟨dst, .load 100 x, ty, pos, after, guard⟩).run Try.prog w = .ok (.value (.agg #[u0, u1, u2, u3])) w := by
  have c0 : w.cell? ⟨g, 0, none⟩ = some u0 := h.cell 0
  have c1 : w.cell? ⟨g, 1, none⟩ = some u1 := h.cell 1
  have c2 : w.cell? ⟨g, 2, none⟩ = some u2 := h.cell 2
  have c3 : w.cell? ⟨g, 3, none⟩ = some u3 := h.cell 3
  simp [execOp, hx, go_sem, c0, c1, c2, c3]


theorem alloc_runH (dst : Option Tmp) (ty : TypeId) (pos : String) (after : Array Edge) (guard : Option (Nat × Bool)) (ρ : Operand → Value) (w : World) :
    (execOp ρ ⟨dst, .alloc 100, ty, pos, after, guard⟩).run Try.prog w = .ok (.value (.pointer (some ⟨w.heap.size, 0, none⟩))) (w.alloc (.cells #[.int .u64 0, .int .u64 0, .int .u64 0, .int .u64 0] 100)) := by
  simp [execOp, go_sem]


section
variable {P : Program} {ops : Array Oper} {Q : Exit → Act → World → Prop} {md : Region.Mode} {S : World → Prop} {a : Act} {W : World} {cores : List Core}
theorem core_loadH (c : Core) (x : Operand) (ty : TypeId) (pos : String) (after : Array Edge) (g : Nat) (u0 u1 u2 u3 : Value)
    (ho : ops[c.i]? = some ⟨some c.d, .load 100 x, ty, pos, after, none⟩) (hk : c.kind = Kind.val (.agg #[u0, u1, u2, u3])) (hx : Known a cores c.pre x (.pointer (some ⟨g, 0, none⟩)))
    (hg : At W g 100 #[u0, u1, u2, u3]) : StepOK Try.prog ops Q a W cores c := by
  intro vs w hl hb hp o ho' K hK
  rw [ho] at ho'
  obtain rfl := Option.some.inj ho'
  refine want_none rfl (wp_of_run_value (load_runH x _ ty pos after none _ w g u0 u1 u2 u3 (hx vs w hl hp) (hg.on hb)) ?_)
  exact hK.out _ w (Below.refl _ _) (by rw [hk]; exact rfl) (fun h => by rw [hk] at h; cases h)

theorem core_allocH (c : Core) (n : Nat) (ty : TypeId) (pos : String) (after : Array Edge)
    (ho : ops[c.i]? = some ⟨some c.d, .alloc 100, ty, pos, after, none⟩) (hk : c.kind = Kind.cell n 100 #[.int .u64 0, .int .u64 0, .int .u64 0, .int .u64 0]) (hn : n ≤ W.heap.size) : StepOK Try.prog ops Q a W cores c := by
  intro vs w hl hb hp o ho' K hK
  rw [ho] at ho'
  obtain rfl := Option.some.inj ho'
  refine want_none rfl (wp_of_run_value (alloc_runH _ ty pos after none _ w) ?_)
  exact hK.out _ _ (gr_alloc (Below.refl _ _) _) (by rw [hk]; exact ⟨_, rfl, Nat.le_trans hn hb.size, At.new _ _ _⟩) (fun _ => ⟨rfl, by simp⟩)

theorem store_oneH {fuel i : Nat} {listed : Array Bool} {b : Act} {w : World} (x y : Operand) (ty : TypeId) (pos : String) (after : Array Edge) (g : Nat) (u0 u1 u2 u3 : Value) (k0 k1 k2 k3 : Int)
    (hr : Region.ready md ops listed = [i]) (ho : ops[i]? = some ⟨none, .store 100 x y, ty, pos, after, none⟩) (hx : b.eval x = .pointer (some ⟨g, 0, none⟩))
    (hy : b.eval y = .agg #[.int .u64 k0, .int .u64 k1, .int .u64 k2, .int .u64 k3]) (hg : At w g 100 #[u0, u1, u2, u3]) (hS : S (put4 w g (.int .u64 k0) (.int .u64 k1) (.int .u64 k2) (.int .u64 k3)))
    (h : wpAnyH Try.prog md ops Q S fuel (listed.setIfInBounds i true) b (put4 w g (.int .u64 k0) (.int .u64 k1) (.int .u64 k2) (.int .u64 k3))) : wpAnyH Try.prog md ops Q S (fuel + 1) listed b w :=
  wpAnyH_one hr ho fun K hK => want_none rfl (wp_of_run_skip (store_runH x y _ ty pos after none _ w g u0 u1 u2 u3 k0 k1 k2 k3 hx hy hg) (hK.out _ _ hS h))

theorem core_bin (c : Core) (b : BinOp) (T T2 : TypeId) (x y : Operand) (ty : TypeId) (pos : String) (after : Array Edge) (u v r : Value)
    (ho : ops[c.i]? = some ⟨some c.d, .binOp b T x y T2, ty, pos, after, none⟩) (hk : c.kind = Kind.val r) (hx : Known a cores c.pre x u) (hy : Known a cores c.pre y v)
    (hr : ∀ (ρ : Operand → Value) (w : World), ρ x = u → ρ y = v → (execOp ρ ⟨some c.d, .binOp b T x y T2, ty, pos, after, none⟩).run P w = .ok (.value r) w) : PureOK P ops S a W cores c :=
  core_pure c _ ty pos after r ho hk fun vs w hl hp w' => hr _ w' (hx vs w hl hp) (hy vs w hl hp)
theorem core_un (c : Core) (b : UnOp) (T : TypeId) (x : Operand) (ty : TypeId) (pos : String) (after : Array Edge) (u r : Value)
    (ho : ops[c.i]? = some ⟨some c.d, .unOp b T x, ty, pos, after, none⟩) (hk : c.kind = Kind.val r) (hx : Known a cores c.pre x u)
    (hr : ∀ (ρ : Operand → Value) (w : World), ρ x = u → (execOp ρ ⟨some c.d, .unOp b T x, ty, pos, after, none⟩).run P w = .ok (.value r) w) : PureOK P ops S a W cores c :=
  core_pure c _ ty pos after r ho hk fun vs w hl hp w' => hr _ w' (hx vs w hl hp)
end
end Go.Proofs.Ytodlpmepoakdlaa
