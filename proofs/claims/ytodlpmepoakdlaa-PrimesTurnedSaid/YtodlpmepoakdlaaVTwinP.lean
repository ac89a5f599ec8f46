/-
  TwinReason: a reason whose parts are a row of its own, and so on.
-/
import Derived.Deep.Cut
import Derived.Test.YtodlpmepoakdlaaVGCore
import Derived.Test.YtodlpmepoakdlaaVSmall
import Derived.Test.YtodlpmepoakdlaaVTwinR
namespace Go.Proofs.Ytodlpmepoakdlaa
set_option maxRecDepth 100000
open Go.RowKit
set_option linter.unusedSimpArgs false
set_option linter.unusedVariables false
attribute [local go_sem ↓] Go.wp_at_zero Go.wp_at_succ

open Pr (Rsn)
theorem TwR.on {w w' : World} {g : Nat} {ps : List Rsn} (h : TwR w g ps) (hb : Below w.heap.size w w') : TwR w' g ps := by
  obtain ⟨xs, hr, he, hs⟩ := h
  refine ⟨xs, hr.on hb, fun j hj => ?_, hs⟩
  have := (he j hj).more (ys := []) (w' := w') (fun q v _ h => cell_on hb h)
  rwa [List.append_nil] at this
/-- a twin's row, as a slice -/
def Kind.tw (B l : Nat) (ps : List Rsn) : Kind :=
  ⟨false, fun v w => ∃ g, v = .slice (some ⟨g, 0, none⟩) l (l + 1) ∧ B ≤ g ∧ TwR w g ps, fun _ _ _ ⟨g, h1, h2, h3⟩ hb => ⟨g, h1, h2, h3.on hb⟩⟩
/-- a twin, as a reason -/
def Kind.twr (B l N Y : Nat) (ps : List Rsn) : Kind :=
  ⟨false, fun v w => ∃ g, v = rv N Y (.slice (some ⟨g, 0, none⟩) l (l + 1)) ∧ B ≤ g ∧ TwR w g ps, fun _ _ _ ⟨g, h1, h2, h3⟩ hb => ⟨g, h1, h2, h3.on hb⟩⟩
theorem buildR (x y z : Operand) (dst : Option Tmp) (ty : TypeId) (pos : String) (after : Array Edge) (guard : Option (Nat × Bool)) (ρ : Operand → Value) (w : World) (N Y : Nat) (a : Option Addr) (l c : Nat) (hx : ρ x = num N) (hy : ρ y = num Y) (hz : ρ z = .slice a l c) :
    (execOp ρ ⟨dst, .build 27 #[(0, x), (1, y), (2, z)], ty, pos, after, guard⟩).run Try.prog w = .ok (.value (rv N Y (.slice a l c))) w := by
  simp [execOp, hx, hy, hz, go_sem]
def put9 (w : World) (g : Nat) (a b c d e f i j k : Value) : World := (((((((((w.setCell ⟨g, 0, none⟩ a).setCell ⟨g, 1, none⟩ b).setCell ⟨g, 2, none⟩ c).setCell ⟨g, 3, none⟩ d).setCell ⟨g, 4, none⟩ e).setCell ⟨g, 5, none⟩ f).setCell ⟨g, 6, none⟩ i).setCell ⟨g, 7, none⟩ j).setCell ⟨g, 8, none⟩ k)
theorem put9_at {w : World} {g : Nat} {t : TypeId} {u0 u1 u2 u3 u4 u5 u6 u7 u8 : Value} (h : At w g t #[u0, u1, u2, u3, u4, u5, u6, u7, u8]) (a b c d e f i j k : Value) : At (put9 w g a b c d e f i j k) g t #[a, b, c, d, e, f, i, j, k] := by
  have := ((((((((h.set 0 a).set 1 b).set 2 c).set 3 d).set 4 e).set 5 f).set 6 i).set 7 j).set 8 k
  unfold put9
  simpa using this
theorem put9_below {W w : World} {n g : Nat} (h : Below n W w) (hg : n ≤ g) (a b c d e f i j k : Value) : Below n W (put9 w g a b c d e f i j k) :=
  ((((((((h.setCell hg _).setCell hg _).setCell hg _).setCell hg _).setCell hg _).setCell hg _).setCell hg _).setCell hg _).setCell hg _
theorem put9_cell {w : World} {g : Nat} {a b c d e f i j k : Value} (p : Addr) (v : Value) (hp : p.block ≠ g) (h : w.cell? p = some v) : (put9 w g a b c d e f i j k).cell? p = some v := by
  have one : ∀ (w : World) (n : Nat) (u : Value), w.cell? p = some v → (w.setCell ⟨g, n, none⟩ u).cell? p = some v := fun w n u h => by
    rw [World.cell?_of_block (w := w) (by simp [World.setCell, Array.getElem?_modify, Ne.symm hp])]
    exact h
  unfold put9
  exact one _ _ _ (one _ _ _ (one _ _ _ (one _ _ _ (one _ _ _ (one _ _ _ (one _ _ _ (one _ _ _ (one _ _ _ h))))))))
theorem store_runR (x y : Operand) (dst : Option Tmp) (ty : TypeId) (pos : String) (after : Array Edge) (guard : Option (Nat × Bool)) (ρ : Operand → Value) (w : World) (g : Nat) (u0 u1 u2 u3 u4 u5 u6 u7 u8 : Value) (N Y : Nat) (A : Option Addr) (l c : Nat)
    (hx : ρ x = .pointer (some ⟨g, 0, none⟩)) (hy : ρ y = rv N Y (.slice A l c)) (h : At w g 27 #[u0, u1, u2, u3, u4, u5, u6, u7, u8]) :
    (execOp ρ ⟨dst, .store 27 x y, ty, pos, after, guard⟩).run Try.prog w = .ok .skip (put9 w g (.int .u64 (wd N 0 : Nat)) (.int .u64 (wd N 1 : Nat)) (.int .u64 (wd N 2 : Nat)) (.int .u64 (wd N 3 : Nat)) (.int .u64 (wd Y 0 : Nat)) (.int .u64 (wd Y 1 : Nat)) (.int .u64 (wd Y 2 : Nat)) (.int .u64 (wd Y 3 : Nat)) (.slice A l c)) := by
  have c0 : w.cell? ⟨g, 0, none⟩ = some u0 := h.cell 0
  have c1 : w.cell? ⟨g, 1, none⟩ = some u1 := h.cell 1
  have c2 : w.cell? ⟨g, 2, none⟩ = some u2 := h.cell 2
  have c3 : w.cell? ⟨g, 3, none⟩ = some u3 := h.cell 3
  have c4 : w.cell? ⟨g, 4, none⟩ = some u4 := h.cell 4
  have c5 : w.cell? ⟨g, 5, none⟩ = some u5 := h.cell 5
  have c6 : w.cell? ⟨g, 6, none⟩ = some u6 := h.cell 6
  have c7 : w.cell? ⟨g, 7, none⟩ = some u7 := h.cell 7
  have c8 : w.cell? ⟨g, 8, none⟩ = some u8 := h.cell 8
  have f0 : w.frozen? ⟨g, 0, none⟩ = false := h.frozen 0
  have f1 : w.frozen? ⟨g, 1, none⟩ = false := h.frozen 1
  have f2 : w.frozen? ⟨g, 2, none⟩ = false := h.frozen 2
  have f3 : w.frozen? ⟨g, 3, none⟩ = false := h.frozen 3
  have f4 : w.frozen? ⟨g, 4, none⟩ = false := h.frozen 4
  have f5 : w.frozen? ⟨g, 5, none⟩ = false := h.frozen 5
  have f6 : w.frozen? ⟨g, 6, none⟩ = false := h.frozen 6
  have f7 : w.frozen? ⟨g, 7, none⟩ = false := h.frozen 7
  have f8 : w.frozen? ⟨g, 8, none⟩ = false := h.frozen 8
  unfold put9
  simp [execOp, hx, hy, go_sem, c0, c1, c2, c3, c4, c5, c6, c7, c8, f0, f1, f2, f3, f4, f5, f6, f7, f8]
section
variable {P : Program} {ops : Array Oper} {Q : Exit → Act → World → Prop} {md : Region.Mode} {S : World → Prop} {a : Act} {W : World} {cores : List Core}
theorem core_callT (c : Core) (f : FuncId) (fn : Func) (code : Code) (x : Operand) (u : Value) (tys : Array TypeId) (ty : TypeId) (pos : String) (after : Array Edge) (B l : Nat) (ps : List Rsn)
    (ho : ops[c.i]? = some ⟨some c.d, .call ⟨.value (.func f), #[x], tys⟩, ty, pos, after, none⟩) (hf : P.funcs[f]? = some fn) (hn : (fn.name == "runtime.NumGoroutine") = false) (hb : fn.body = some code)
    (hk : c.kind = Kind.tw B l ps) (hx : Known a cores c.pre x u) (hB : B ≤ W.heap.size)
    (C : ∀ w, Below W.heap.size W w → Calls P f #[u] w fun e w' => e = .returned (.slice (some ⟨w.heap.size, 0, none⟩) l (l + 1)) ∧ TwR w' w.heap.size ps ∧ Below w.heap.size w w') : StepOK P ops Q a W cores c := by
  intro vs w hl hbw hp o ho' K hK
  rw [ho] at ho'
  obtain rfl := Option.some.inj ho'
  refine want_none rfl ?_
  have hargs := hx vs w hl hp
  have hrun : ∀ w, (execOp (over a (cores.map (·.d)) vs).eval ⟨some c.d, .call ⟨.value (.func f), #[x], tys⟩, ty, pos, after, none⟩).run P w = .ok (.enter f #[u]) w := fun w => by
    have h := run_enter hf hn hb #[u] w
    simp only [execOp, resolve, List.map_toArray, List.map_cons, List.map_nil, hargs]
    simpa [Act.eval, Deferred.ofValue, invoke, go_sem, hargs] using h
  unfold Oper.wp
  rw [hrun w, Oper.upon_enter]
  refine (C w hbw).mono fun e w' ⟨he, ht, hb⟩ => ?_
  subst he
  exact hK.out _ w' hb (by rw [hk]; exact ⟨w.heap.size, rfl, Nat.le_trans hB hbw.size, ht⟩) (fun h => by rw [hk] at h; cases h)
theorem core_buildT (c : Core) (j t : Nat) (d : Core) (x y : Operand) (ty : TypeId) (pos : String) (after : Array Edge) (B l N Y : Nat) (ps : List Rsn)
    (ho : ops[c.i]? = some ⟨some c.d, .build 27 #[(0, x), (1, y), (2, .tmp t)], ty, pos, after, none⟩)
    (hk : c.kind = Kind.twr B l N Y ps) (hx : Known a cores c.pre x (num N)) (hy : Known a cores c.pre y (num Y)) (hj : j ∈ c.pre) (hc : cores[j]? = some d) (hd : d.kind = Kind.tw B l ps) (hdt : d.d = t) : StepOK Try.prog ops Q a W cores c := by
  intro vs w hl hbw hp o ho' K hK
  rw [ho] at ho'
  obtain rfl := Option.some.inj ho'
  obtain ⟨v, hv, hpv⟩ := hp j hj d hc
  rw [hd] at hpv
  obtain ⟨g, rfl, hg, ht⟩ := hpv
  have hz : (over a (cores.map (·.d)) vs).eval (.tmp t) = .slice (some ⟨g, 0, none⟩) l (l + 1) := by
    subst hdt
    exact over_at _ _ _ j _ _ hl.nd (by rw [List.getElem?_map, hc]; rfl) hv (hl.sz _ (List.mem_map_of_mem (List.mem_of_getElem? hc)))
  refine want_none rfl (wp_of_run_value (buildR x y (.tmp t) _ ty pos after none _ w N Y _ l (l + 1) (hx vs w hl hp) (hy vs w hl hp) hz) ?_)
  exact hK.out _ w (Below.refl _ _) (by rw [hk]; exact ⟨g, rfl, hg, ht⟩) (fun h => by rw [hk] at h; cases h)
theorem store_oneR {fuel i : Nat} {listed : Array Bool} {b : Act} {w : World} (x y : Operand) (ty : TypeId) (pos : String) (after : Array Edge) (g : Nat) (u0 u1 u2 u3 u4 u5 u6 u7 u8 : Value) (N Y : Nat) (A : Option Addr) (l c : Nat)
    (hr : Region.ready md ops listed = [i]) (ho : ops[i]? = some ⟨none, .store 27 x y, ty, pos, after, none⟩) (hx : b.eval x = .pointer (some ⟨g, 0, none⟩)) (hy : b.eval y = rv N Y (.slice A l c))
    (hg : At w g 27 #[u0, u1, u2, u3, u4, u5, u6, u7, u8]) (hS : ∀ w', S w')
    (h : wpAnyH Try.prog md ops Q S fuel (listed.setIfInBounds i true) b (put9 w g (.int .u64 (wd N 0 : Nat)) (.int .u64 (wd N 1 : Nat)) (.int .u64 (wd N 2 : Nat)) (.int .u64 (wd N 3 : Nat)) (.int .u64 (wd Y 0 : Nat)) (.int .u64 (wd Y 1 : Nat)) (.int .u64 (wd Y 2 : Nat)) (.int .u64 (wd Y 3 : Nat)) (.slice A l c))) :
    wpAnyH Try.prog md ops Q S (fuel + 1) listed b w :=
  wpAnyH_one hr ho fun K hK => want_none rfl (wp_of_run_skip (store_runR x y _ ty pos after none _ w g u0 u1 u2 u3 u4 u5 u6 u7 u8 N Y A l c hx hy hg) (hK.out _ _ (hS _) h))
theorem core_loadRF (c : Core) (x : Operand) (ty : TypeId) (pos : String) (after : Array Edge) (op : Op) (u xv : Value)
    (ho : ops[c.i]? = some ⟨some c.d, op, ty, pos, after, none⟩) (hk : c.kind = Kind.val u) (hx : Known a cores c.pre x xv)
    (h : ∀ (ρ : Operand → Value) (w : World), ρ x = xv → Below W.heap.size W w → (execOp ρ ⟨some c.d, op, ty, pos, after, none⟩).run Try.prog w = .ok (.value u) w) : StepOK Try.prog ops Q a W cores c := by
  intro vs w hl hbw hp o ho' K hK
  rw [ho] at ho'
  obtain rfl := Option.some.inj ho'
  refine want_none rfl (wp_of_run_value (h _ w (hx vs w hl hp) hbw) ?_)
  exact hK.out _ w (Below.refl _ _) (by rw [hk]; exact rfl) (fun h => by rw [hk] at h; cases h)
end
end Go.Proofs.Ytodlpmepoakdlaa

/-
  TwinReason: the walk.
-/
namespace Go.Proofs.Ytodlpmepoakdlaa
set_option maxRecDepth 100000
open Go.RowKit
set_option linter.unusedSimpArgs false
set_option linter.unusedVariables false
attribute [local go_sem ↓] Go.wp_at_zero Go.wp_at_succ

open Pr (Rsn)
theorem put9_far {w : World} {g g' : Nat} {t : TypeId} {cs : Array Value} (h : At w g t cs) (hne : g ≠ g') (a b c d e f i j k : Value) : At (put9 w g' a b c d e f i j k) g t cs := by
  have one : ∀ (w : World) (n : Nat) (u : Value), At w g t cs → At (w.setCell ⟨g', n, none⟩ u) g t cs := fun w n u h => h.far (p := ⟨g', n, none⟩) hne.symm u
  unfold put9
  exact one _ _ _ (one _ _ _ (one _ _ _ (one _ _ _ (one _ _ _ (one _ _ _ (one _ _ _ (one _ _ _ (one _ _ _ h))))))))
theorem twR_put9 {w : World} {g g' : Nat} {ps : List Rsn} (h : TwR w g ps) (hg : g' < g) (u0 u1 u2 u3 u4 u5 u6 u7 u8 : Value) : TwR (put9 w g' u0 u1 u2 u3 u4 u5 u6 u7 u8) g ps := by
  obtain ⟨xs, ⟨cur, hr, hr2⟩, he, hs⟩ := h
  have hr' := put9_far (g' := g') hr (by omega) u0 u1 u2 u3 u4 u5 u6 u7 u8
  have hk : ∀ (q : Addr) v, g + 1 ≤ q.block → w.cell? q = some v → (put9 w g' u0 u1 u2 u3 u4 u5 u6 u7 u8).cell? q = some v := fun q v hq h => put9_cell q v (by omega) h
  generalize put9 w g' u0 u1 u2 u3 u4 u5 u6 u7 u8 = w2 at *
  refine ⟨xs, ⟨cur, hr', hr2⟩, fun j hj => ?_, hs⟩
  have := (he j hj).more (ys := []) (w' := w2) hk
  rwa [List.append_nil] at this
set_option maxRecDepth 100000 in
set_option maxHeartbeats 8000000 in
theorem twin_step (p : Rsn) (ih : ∀ q ∈ p.ps, TwS q) (hlen : p.ps.length ≤ 1599289640400) : TwS p := by
  intro a cap w hN hY hs
  have CT := fun (u : World) (hb : Below w.heap.size w u) => twins_step p.ps ih hlen a cap u (hs.on hb)
  obtain ⟨N, hNe⟩ : ∃ N, N = p.n := ⟨_, rfl⟩
  obtain ⟨Y, hYe⟩ : ∃ Y, Y = p.w := ⟨_, rfl⟩
  obtain ⟨ps, hps⟩ : ∃ ps, ps = p.ps := ⟨_, rfl⟩
  obtain ⟨l, hl⟩ : ∃ l, p.ps.length = l := ⟨_, rfl⟩
  rw [hl, ← hps] at CT
  rw [hl, ← hNe, ← hYe, ← hps]
  have HCT := Lib.hid CT
  clear CT ih hlen hN hY hs hNe hYe hl hps
  go_enter Try.func12, Try.ntmps12
  have BW := Lib.hid (Below.refl w.heap.size w)
  go_upto_region 1 with fail
  have Et : w.heap.size ≤ w.heap.size + 1 := by have := BW.out.size; omega
  have Drt : w.heap.size ≠ w.heap.size + 1 := by omega
  generalize hW1 : ((w.alloc (.cells #[.int .u64 (wd N 0 : Nat), .int .u64 (wd N 1 : Nat), .int .u64 (wd N 2 : Nat), .int .u64 (wd N 3 : Nat), .int .u64 (wd Y 0 : Nat), .int .u64 (wd Y 1 : Nat), .int .u64 (wd Y 2 : Nat), .int .u64 (wd Y 3 : Nat), .slice a l cap] 27)).alloc (.cells #[.int .u64 0, .int .u64 0, .int .u64 0, .int .u64 0, .int .u64 0, .int .u64 0, .int .u64 0, .int .u64 0, .slice none 0 0] 27)) = W1 at *
  have Nr : At W1 (w.heap.size) _ _ := at_of hW1 ((At.at_ _ _ _ _ (by simp)).alloc _)
  have Nt : At W1 (w.heap.size + 1) _ _ := at_of hW1 (At.at_ _ _ _ _ (by simp))
  have NB := gr_of hW1 (gr_alloc (gr_alloc BW.out _) _)
  clear hW1 BW 
  generalize w.heap.size + 1 = gt at *
  obtain ⟨gr, hg0⟩ : ∃ g, g = w.heap.size := ⟨_, rfl⟩
  rw [← hg0] at Nr ⊢
  rw [← hg0] at Drt
  have Er : w.heap.size ≤ gr := by omega
  clear hg0
  have Fr := Lib.hid Nr
  have Ft := Lib.hid Nt
  have BW := Lib.hid NB
  clear NB Nr Nt
  try simp only [List.append_eq, List.cons_append, List.nil_append]
  refine wp_region_noPanic ?_
  refine wp_region_held_drew (S := fun _ => True) (by kernel_rfl) (trivial) (fun _ => ?_)
  refine wpAnyH_cores (fuel := 1) (⟨0, 3, [], Kind.val (.pointer (some ⟨gr, 0, none⟩)), false⟩ :: ⟨1, 4, [0], Kind.val (.agg #[.int .u64 (wd N 0 : Nat), .int .u64 (wd N 1 : Nat), .int .u64 (wd N 2 : Nat), .int .u64 (wd N 3 : Nat)]), false⟩ :: ⟨2, 5, [], Kind.val (.pointer (some ⟨gr, 4, none⟩)), false⟩ :: ⟨3, 6, [2], Kind.val (.agg #[.int .u64 (wd Y 0 : Nat), .int .u64 (wd Y 1 : Nat), .int .u64 (wd Y 2 : Nat), .int .u64 (wd Y 3 : Nat)]), false⟩ :: ⟨4, 7, [], Kind.val (.pointer (some ⟨gr, 8, none⟩)), false⟩ :: ⟨5, 8, [4], Kind.val (.slice a l cap), false⟩ :: ⟨6, 9, [5], Kind.tw W1.heap.size l ps, false⟩ :: ⟨7, 10, [1, 3, 6], Kind.twr W1.heap.size l N Y ps, false⟩ :: []) _ _ W1 _ ?_ ?_ ?_ ?_ ?_ ?_ ?_ ?_ ?_ ?_ ?_
  · rfl
  · kernel_rfl
  · exact of_decide_eq_true (by kernel_rfl)
  · exact all_cons ⟨_, by rfl, by rfl⟩ (all_cons ⟨_, by rfl, by rfl⟩ (all_cons ⟨_, by rfl, by rfl⟩ (all_cons ⟨_, by rfl, by rfl⟩ (all_cons ⟨_, by rfl, by rfl⟩ (all_cons ⟨_, by rfl, by rfl⟩ (all_cons ⟨_, by rfl, by rfl⟩ (all_cons ⟨_, by rfl, by rfl⟩ (all_nil))))))))
  · exact fun _ hb => trivial
  · exact (Below.refl _ _).drew
  · kernel_rfl
  · exact fun _ _ _ _ _ h => h
  · refine all_cons ?_ (all_cons ?_ (all_cons ?_ (all_cons ?_ (all_cons ?_ (all_cons ?_ (all_cons ?_ (all_cons ?_ (all_nil))))))))
    · exact core_pureAs _ (by rfl)
    · exact core_pureAs _ (by rfl)
    · exact core_pureAs _ (by rfl)
    · exact core_pureAs _ (by rfl)
    · exact core_pureAs _ (by rfl)
    · exact core_pureAs _ (by rfl)
    · exact core_pureAs _ (by rfl)
    · exact core_pureAs _ (by rfl)
  · refine all_cons ?_ (all_cons ?_ (all_cons ?_ (all_cons ?_ (all_cons ?_ (all_cons ?_ (all_cons ?_ (all_cons ?_ (all_nil))))))))
    · exact fun _ => core_loadRF _ _ _ _ _ _ _ _ (by rfl) (by rfl) (known_old 1 _ (of_decide_eq_true (by rfl)) (by rfl)) (fun ρ w hx hb => fieldR0 _ _ _ _ _ _ ρ w gr hx)
    · exact fun _ => core_loadRF _ _ _ _ _ _ _ _ (by rfl) (by rfl) (known_core 0 3 _ _ (of_decide_eq_true (by rfl)) (by rfl) (by rfl) (by rfl)) (fun ρ w hx hb => loadR0 _ _ _ _ _ _ ρ w gr _ _ _ _ _ _ _ _ _ hx (Fr.out.on hb))
    · exact fun _ => core_loadRF _ _ _ _ _ _ _ _ (by rfl) (by rfl) (known_old 1 _ (of_decide_eq_true (by rfl)) (by rfl)) (fun ρ w hx hb => fieldR1 _ _ _ _ _ _ ρ w gr hx)
    · exact fun _ => core_loadRF _ _ _ _ _ _ _ _ (by rfl) (by rfl) (known_core 2 5 _ _ (of_decide_eq_true (by rfl)) (by rfl) (by rfl) (by rfl)) (fun ρ w hx hb => loadR1 _ _ _ _ _ _ ρ w gr _ _ _ _ _ _ _ _ _ hx (Fr.out.on hb))
    · exact fun _ => core_loadRF _ _ _ _ _ _ _ _ (by rfl) (by rfl) (known_old 1 _ (of_decide_eq_true (by rfl)) (by rfl)) (fun ρ w hx hb => fieldR2 _ _ _ _ _ _ ρ w gr hx)
    · exact fun _ => core_loadRF _ _ _ _ _ _ _ _ (by rfl) (by rfl) (known_core 4 7 _ _ (of_decide_eq_true (by rfl)) (by rfl) (by rfl) (by rfl)) (fun ρ w hx hb => loadR2 _ _ _ _ _ _ ρ w gr _ _ _ _ _ _ _ _ _ hx (Fr.out.on hb))
    · exact fun _ => core_callT _ 31 _ _ _ _ _ _ _ _ W1.heap.size l ps (by rfl) Try.func31 (by kernel_rfl) (by rfl) (by rfl) (known_core 5 8 _ _ (of_decide_eq_true (by rfl)) (by rfl) (by rfl) (by rfl)) (Nat.le_refl _) (fun u hb => HCT.out u (bel_tr BW.out hb))
    · exact fun _ => core_buildT _ 6 9 _ _ _ _ _ _ W1.heap.size l N Y ps (by rfl) (by rfl) (known_core 1 4 _ _ (of_decide_eq_true (by rfl)) (by rfl) (by rfl) (by rfl)) (known_core 3 6 _ _ (of_decide_eq_true (by rfl)) (by rfl) (by rfl) (by rfl)) (of_decide_eq_true (by rfl)) (by rfl) (by rfl) (by rfl)
  intro vs y1 hc
  obtain ⟨vv0, vv1, vv2, vv3, vv4, vv5, vv6, vv7, rfl⟩ := len8 vs hc.lv
  obtain ⟨xx, hx, g2, hv, hg2, ht2⟩ := hc.ok 7 _ rfl rfl
  have qq7 : vv7 = rv N Y (.slice (some ⟨g2, 0, none⟩) l (l + 1)) := (Option.some.inj (show some vv7 = some xx from hx)).trans hv
  clear hx hv
  have BZ := hc.bel
  clear hc
  have LTT := Ft.out.lt; have LWW := BW.out.size
  have Nt := Ft.out.on BZ
  have NB := bel_tr BW.out BZ
  have T2 := Lib.hid ht2; have G2 := Lib.hid hg2
  clear BW BZ Fr Ft ht2 hg2 HCT
  subst qq7
  simp only [List.map_cons, List.map_nil, over, Act.put, List.setIfInBounds_toArray, List.set_cons_zero, List.set_cons_succ]
  refine store_oneR (i := 8) _ _ _ _ _ gt _ _ _ _ _ _ _ _ _ N Y _ _ _ (by kernel_rfl) (by rfl) (by rfl) (by rfl) Nt (fun _ => trivial) ?_
  refine wpAnyH_done (by kernel_rfl) ?_ _
  refine NoPanic.normal ?_
  have Nt2 := put9_at Nt (.int .u64 (wd N 0 : Nat)) (.int .u64 (wd N 1 : Nat)) (.int .u64 (wd N 2 : Nat)) (.int .u64 (wd N 3 : Nat)) (.int .u64 (wd Y 0 : Nat)) (.int .u64 (wd Y 1 : Nat)) (.int .u64 (wd Y 2 : Nat)) (.int .u64 (wd Y 3 : Nat)) (.slice (some ⟨g2, 0, none⟩) l (l + 1))
  have NB2 := put9_below NB Et (.int .u64 (wd N 0 : Nat)) (.int .u64 (wd N 1 : Nat)) (.int .u64 (wd N 2 : Nat)) (.int .u64 (wd N 3 : Nat)) (.int .u64 (wd Y 0 : Nat)) (.int .u64 (wd Y 1 : Nat)) (.int .u64 (wd Y 2 : Nat)) (.int .u64 (wd Y 3 : Nat)) (.slice (some ⟨g2, 0, none⟩) l (l + 1))
  have T3 : TwR (put9 y1 gt (.int .u64 (wd N 0 : Nat)) (.int .u64 (wd N 1 : Nat)) (.int .u64 (wd N 2 : Nat)) (.int .u64 (wd N 3 : Nat)) (.int .u64 (wd Y 0 : Nat)) (.int .u64 (wd Y 1 : Nat)) (.int .u64 (wd Y 2 : Nat)) (.int .u64 (wd Y 3 : Nat)) (.slice (some ⟨g2, 0, none⟩) l (l + 1))) g2 ps := twR_put9 T2.out (Nat.lt_of_lt_of_le LTT G2.out) _ _ _ _ _ _ _ _ _
  have T4 := Lib.hid T3
  generalize hW2 : put9 y1 gt (.int .u64 (wd N 0 : Nat)) (.int .u64 (wd N 1 : Nat)) (.int .u64 (wd N 2 : Nat)) (.int .u64 (wd N 3 : Nat)) (.int .u64 (wd Y 0 : Nat)) (.int .u64 (wd Y 1 : Nat)) (.int .u64 (wd Y 2 : Nat)) (.int .u64 (wd Y 3 : Nat)) (.slice (some ⟨g2, 0, none⟩) l (l + 1)) = W2 at *
  have Ft := Lib.hid Nt2; have BW := Lib.hid NB2
  have HWW := Lib.hid LWW
  clear Nt NB Nt2 NB2 T3 T2 hW2 LTT LWW
  have Lt := Ft.out.lt
  have ct0 : W2.cell? ⟨gt, 0, none⟩ = some (.int .u64 (wd N 0 : Nat)) := Ft.out.cell 0
  have ct1 : W2.cell? ⟨gt, 1, none⟩ = some (.int .u64 (wd N 1 : Nat)) := Ft.out.cell 1
  have ct2 : W2.cell? ⟨gt, 2, none⟩ = some (.int .u64 (wd N 2 : Nat)) := Ft.out.cell 2
  have ct3 : W2.cell? ⟨gt, 3, none⟩ = some (.int .u64 (wd N 3 : Nat)) := Ft.out.cell 3
  have ct4 : W2.cell? ⟨gt, 4, none⟩ = some (.int .u64 (wd Y 0 : Nat)) := Ft.out.cell 4
  have ct5 : W2.cell? ⟨gt, 5, none⟩ = some (.int .u64 (wd Y 1 : Nat)) := Ft.out.cell 5
  have ct6 : W2.cell? ⟨gt, 6, none⟩ = some (.int .u64 (wd Y 2 : Nat)) := Ft.out.cell 6
  have ct7 : W2.cell? ⟨gt, 7, none⟩ = some (.int .u64 (wd Y 3 : Nat)) := Ft.out.cell 7
  have ct8 : W2.cell? ⟨gt, 8, none⟩ = some (.slice (some ⟨g2, 0, none⟩) l (l + 1)) := Ft.out.cell 8
  go_wp2_with fail
  refine bodyPost_ret (v := rv N Y (.slice (some ⟨g2, 0, none⟩) l (l + 1))) (by simp [results, Try.results12, go_sem, *]) rfl ⟨g2, rfl, Nat.le_trans HWW.out G2.out, T4.out, BW.out⟩

theorem twin_any : ∀ (k : Nat) (p : Rsn), p.cnt ≤ k → Lens p → TwS p
  | 0, p, h, _ => by have := Pr.cnt_pos p; omega
  | k + 1, p, h, hl => twin_step p (fun q hq => twin_any k q (by have := Pr.cnt_part hq; omega) ((lens_iff.mp hl).2.mem hq)) (lens_iff.mp hl).1
end Go.Proofs.Ytodlpmepoakdlaa
