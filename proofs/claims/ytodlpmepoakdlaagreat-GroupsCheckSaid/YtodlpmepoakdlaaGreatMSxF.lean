import Derived.Deep.Cut
import Derived.Test.YtodlpmepoakdlaaGreatMRCore2
import Derived.Test.YtodlpmepoakdlaaGreatMSmall
import Derived.Test.YtodlpmepoakdlaaGreatMSxN
namespace Go.Proofs.YtodlpmepoakdlaaGreat
set_option maxRecDepth 100000
attribute [local go_sem ↓] Go.wp_at_zero Go.wp_at_succ
open Go.RowKit
set_option linter.unusedSimpArgs false
set_option linter.unusedVariables false

inductive VK
 | val (u : Value)
 | cell (t : TypeId) (cs : Array Value)
 | row (t : TypeId) (cs : Array Value) (l : Nat)
structure VC where
 i : Nat
 d : Nat
 pre : List Nat
 k : VK
 pure : Bool
def Kind.row (t : TypeId) (cs : Array Value) (l : Nat) : Kind := ⟨false, fun v w => ∃ g, v = .slice (some ⟨g, 0, none⟩) l l ∧ At w g t cs, fun _ _ _ ⟨g, h1, h2⟩ hb => ⟨g, h1, h2.on hb⟩⟩
def VK.kind (b : Nat) : VK → Kind
 | .row t cs l => Kind.row t cs l
 | .val u => Kind.val u
 | .cell t cs => Kind.cell b t cs
def VC.core (b : Nat) (c : VC) : Core := ⟨c.i, c.d, c.pre, c.k.kind b, c.pure⟩
def Wj : List VC → Nat
 | [] => 0
 | ⟨_, _, _, .val _, _⟩ :: T => Wj T
 | ⟨_, _, _, .row _ _ _, _⟩ :: T => Wj T
 | ⟨_, _, _, .cell _ _, _⟩ :: T => Wj T + 1
def Xg : List VC → Nat
 | [] => 0
 | ⟨_, _, _, .val _, _⟩ :: T => Xg T
 | ⟨_, _, _, .cell _ _, _⟩ :: T => Xg T
 | ⟨_, _, _, .row _ _ _, _⟩ :: T => Xg T + 1
def Wm : List VC → List Nat → List Nat → List (Nat × Value)
 | [], _, _ => []
 | ⟨_, d, _, .val u, _⟩ :: T, gs, rs => (d, u) :: Wm T gs rs
 | ⟨_, d, _, .cell _ _, _⟩ :: T, g :: gs, rs => (d, .pointer (some ⟨g, 0, none⟩)) :: Wm T gs rs
 | ⟨_, d, _, .cell _ _, _⟩ :: T, [], rs => (d, undef) :: Wm T [] rs
 | ⟨_, d, _, .row _ _ l, _⟩ :: T, gs, r :: rs => (d, .slice (some ⟨r, 0, none⟩) l l) :: Wm T gs rs
 | ⟨_, d, _, .row _ _ _, _⟩ :: T, gs, [] => (d, undef) :: Wm T gs []
def Vd : List VC → List Nat → List (Nat × TypeId × Array Value)
 | [], _ => []
 | ⟨_, _, _, .val _, _⟩ :: T, gs => Vd T gs
 | ⟨_, _, _, .row _ _ _, _⟩ :: T, gs => Vd T gs
 | ⟨_, _, _, .cell t cs, _⟩ :: T, g :: gs => (g, t, cs) :: Vd T gs
 | ⟨_, _, _, .cell _ _, _⟩ :: T, [] => Vd T []
theorem Vw : ∀ (T : List VC) (gs rs : List Nat), (Wm T gs rs).map (·.1) = T.map (·.d)
 | [], _, _ => rfl
 | ⟨_, _, _, .val _, _⟩ :: T, gs, rs => by simp [Wm, Vw T gs rs]
 | ⟨_, _, _, .cell _ _, _⟩ :: T, g :: gs, rs => by simp [Wm, Vw T gs rs]
 | ⟨_, _, _, .cell _ _, _⟩ :: T, [], rs => by simp [Wm, Vw T [] rs]
 | ⟨_, _, _, .row _ _ _, _⟩ :: T, gs, r :: rs => by simp [Wm, Vw T gs rs]
 | ⟨_, _, _, .row _ _ _, _⟩ :: T, gs, [] => by simp [Wm, Vw T gs []]
theorem Ut : ∀ (T : List VC) (gs : List Nat) (x), x ∈ Vd T gs → x.1 ∈ gs
 | [], _, _, h => by simp [Vd] at h
 | ⟨_, _, _, .val _, _⟩ :: T, gs, x, h => Ut T gs x (by simpa [Vd] using h)
 | ⟨_, _, _, .row _ _ _, _⟩ :: T, gs, x, h => Ut T gs x (by simpa [Vd] using h)
 | ⟨_, _, _, .cell _ _, _⟩ :: T, g :: gs, x, h => by
  rcases List.mem_cons.1 (show x ∈ (g, _, _) :: Vd T gs from h) with rfl | h
  ·exact List.mem_cons_self
  ·exact List.mem_cons_of_mem _ (Ut T gs x h)
 | ⟨_, _, _, .cell _ _, _⟩ :: T, [], x, h => Ut T [] x (by simpa [Vd] using h)

def Jff (b : Nat) (w : World) : List VC → List Value → Prop
 | [], [] => True
 | c :: T, v :: vs => (c.k.kind b).p v w ∧ ((c.k.kind b).new = true → ∀ (j : Nat) (d : VC), T[j]? = some d → (d.k.kind b).new = true → vs[j]? ≠ some v) ∧ Jff b w T vs
 | _, _ => False
theorem Jdz {b : Nat} {w : World} : ∀ (T : List VC) (vs : List Value), vs.length = T.length → (∀ (k : Nat) (c : VC), T[k]? = some c → ∃ v, vs[k]? = some v ∧ (c.k.kind b).p v w) →
  (∀ (k j : Nat) (c d : VC), T[k]? = some c → T[j]? = some d → (c.k.kind b).new = true → (d.k.kind b).new = true → k ≠ j → vs[k]? ≠ vs[j]?) → Jff b w T vs
 | [], [], _, _, _ => trivial
 | c :: T, v :: vs, hl, h1, h2 => by
  refine ⟨?_, fun hn j d hd hdn he => ?_, Jdz T vs (by simpa using hl) (fun k c hc => ?_) fun k j c d hc hd hcn hdn hne => ?_⟩
  ·obtain ⟨u, hu, hp⟩ := h1 0 c rfl
   simp at hu; subst hu; exact hp
  ·exact h2 0 (j + 1) c d rfl (by simpa using hd) hn hdn (by omega) (by simp [he])
  ·obtain ⟨u, hu, hp⟩ := h1 (k + 1) c (by simpa using hc)
   exact ⟨u, by simpa using hu, hp⟩
  ·have := h2 (k + 1) (j + 1) c d (by simpa using hc) (by simpa using hd) hcn hdn (by omega)
   simpa using this
 | [], _ :: _, hl, _, _ => by simp at hl
 | _ :: _, [], hl, _, _ => by simp at hl
theorem Xv {b : Nat} {w : World} : ∀ (T : List VC) (vs : List Value), Jff b w T vs → ∃ gs rs : List Nat, gs.length = Wj T ∧ rs.length = Xg T ∧ vs = (Wm T gs rs).map (·.2) ∧ (∀ x ∈ Vd T gs, At w x.1 x.2.1 x.2.2) ∧ (∀ g ∈ gs, b ≤ g) ∧
  gs.Nodup ∧ (∀ g ∈ gs, ∃ (j : Nat) (d : VC), T[j]? = some d ∧ (d.k.kind b).new = true ∧ vs[j]? = some (.pointer (some ⟨g, 0, none⟩)))
 | [], [], _ => ⟨[], [], rfl, rfl, rfl, fun _ h => (by cases h), fun _ h => (by cases h), List.nodup_nil, fun _ h => (by cases h)⟩
 | ⟨i, d, pre, .val u, p⟩ :: T, v :: vs, ⟨h1, _, h3⟩ => by
  obtain ⟨gs, rs, e1, e0, e2, e3, e4, e5, e6⟩ := Xv T vs h3
  have hv : v = u := h1
  subst hv
  refine ⟨gs, rs, e1, e0, by simp [Wm, ← e2], e3, e4, e5, fun g hg => ?_⟩
  obtain ⟨j, d', hd, hn, hv⟩ := e6 g hg
  exact ⟨j + 1, d', by simpa using hd, hn, by simpa using hv⟩
 | ⟨i, d, pre, .row t cs l, p⟩ :: T, v :: vs, ⟨h1, _, h3⟩ => by
  obtain ⟨gs, rs, e1, e0, e2, e3, e4, e5, e6⟩ := Xv T vs h3
  obtain ⟨r, rfl, hat⟩ : ∃ g, v = .slice (some ⟨g, 0, none⟩) l l ∧ At w g t cs := h1
  refine ⟨gs, r :: rs, e1, by simp [Xg, e0], by simp [Wm, ← e2], e3, e4, e5, fun g hg => ?_⟩
  obtain ⟨j, d', hd, hn, hv⟩ := e6 g hg
  exact ⟨j + 1, d', by simpa using hd, hn, by simpa using hv⟩
 | ⟨i, d, pre, .cell t cs, p⟩ :: T, v :: vs, ⟨h1, h2, h3⟩ => by
  obtain ⟨gs, rs, e1, e0, e2, e3, e4, e5, e6⟩ := Xv T vs h3
  obtain ⟨g, rfl, hb, hat⟩ : ∃ g, v = .pointer (some ⟨g, 0, none⟩) ∧ b ≤ g ∧ At w g t cs := h1
  refine ⟨g :: gs, rs, by simp [Wj, e1], e0, by simp [Wm, ← e2], fun x hx => ?_, fun x hx => ?_, ?_, fun x hx => ?_⟩
  ·rcases List.mem_cons.1 (show x ∈ (g, t, cs) :: Vd T gs from hx) with rfl | hx
   ·exact hat
   ·exact e3 x hx
  ·rcases List.mem_cons.1 hx with rfl | hx
   ·exact hb
   ·exact e4 x hx
  ·refine List.nodup_cons.2 ⟨fun hg => ?_, e5⟩
   obtain ⟨j, d', hd, hn, hv⟩ := e6 g hg
   exact h2 rfl j d' hd hn hv
  ·rcases List.mem_cons.1 hx with rfl | hx
   ·exact ⟨0, _, rfl, rfl, rfl⟩
   ·obtain ⟨j, d', hd, hn, hv⟩ := e6 x hx
    exact ⟨j + 1, d', by simpa using hd, hn, by simpa using hv⟩
 | [], _ :: _, h => h.elim
 | _ :: _, [], h => h.elim
theorem Wg : ∀ (T : List VC) (gs : List Nat), gs.Nodup → ((Vd T gs).map (·.1)).Nodup
 | [], _, _ => by simp [Vd]
 | ⟨_, _, _, .val _, _⟩ :: T, gs, h => by simpa [Vd] using Wg T gs h
 | ⟨_, _, _, .row _ _ _, _⟩ :: T, gs, h => by simpa [Vd] using Wg T gs h
 | ⟨_, _, _, .cell _ _, _⟩ :: T, g :: gs, h => by
  obtain ⟨h1, h2⟩ := List.nodup_cons.1 h
  show (g :: (Vd T gs).map (·.1)).Nodup
  refine List.nodup_cons.2 ⟨fun hg => h1 ?_, Wg T gs h2⟩
  obtain ⟨x, hx, rfl⟩ := List.mem_map.1 hg
  exact Ut T gs x hx
 | ⟨_, _, _, .cell _ _, _⟩ :: T, [], h => by simpa [Vd] using Wg T [] h

section
variable {P : Program} {ops : Array Oper} {Q : Exit → Act → World → Prop} {a : Act} {n0 : Nat} {w w0 : World} {N : Nat} {L : List (Nat × Value)} {df : List Deferred} {M : List (Nat × TypeId × Array Value)}
theorem Jdy : ∀ (R L : List (Nat × Value)) (s : Nat) (v : Value), lk (R ++ L) s = some v → lk R s = some v ∨ s ∉ R.map (·.1)
 | [], _, _, _, _ => Or.inr (by simp)
 | (d, u) :: R, L, s, v, h => by
  by_cases e : d = s
  ·subst e; simp [lk] at h; left; simp [lk, h]
  ·have e' : Nat.beq d s = false := Bool.eq_false_iff.2 fun h => e (Nat.eq_of_beq_eq_true h)
   simp only [List.cons_append, lk, e', cond_false] at h
   rcases Jdy R L s v h with h | h
   ·left; simp [lk, e', h]
   ·right
    simp only [List.map_cons, List.mem_cons, not_or]
    exact ⟨fun h' => e h'.symm, h⟩
theorem Kl (T : List VC) (fuel : Nat) {id : Nat} (F : Fr a N L df) (H : Mem n0 w0 w M) (hm : P.follows .mixedOrders = true)
  (hN : (T.map (·.d)).all (fun d => Nat.ble (d + 1) N) = true) (hfuel : fuel + T.length = ops.size)
  (hok : Jeh .any ops (Array.replicate ops.size false) (T.map (·.i)) (T.map (·.pre)) (T.map (·.pure)) = true) (hnd : (T.map (·.d)).Nodup)
  (hops : ∀ c ∈ T.map (VC.core w.heap.size), ∃ o, ops[c.i]? = some o ∧ o.dst = some c.d) (hsel : Region.noSelect ops = true)
  (hpure : ∀ c ∈ T.map (VC.core w.heap.size), Va P ops (fun w' => Mem n0 w0 w' M) a w (T.map (VC.core w.heap.size)) c)
  (hstep : ∀ c ∈ T.map (VC.core w.heap.size), c.pure = false → Vm P ops (NoPanic Q) a w (T.map (VC.core w.heap.size)) c)
  (hend : ∀ gs rs a' w', gs.length = Wj T → rs.length = Xg T → Fr a' N (Wm T gs rs ++ L) df → Mem n0 w0 w' (Vd T gs ++ M) → wpAnyH P .any ops (NoPanic Q) (fun w' => Mem n0 w0 w' M) fuel (Jbr (Array.replicate ops.size false) (T.map (·.i)) (List.replicate T.length true)) a' w') :
  (Code.region id ops true).wp P Q a w := by
 refine wp_region_noPanic ?_
 refine wp_region_held_drew (S := fun w' => Mem n0 w0 w' M) hm H.drew (fun _ => ?_)
 have c1 : (T.map (VC.core w.heap.size)).map (·.i) = T.map (·.i) := by simp [VC.core]
 have c2 : (T.map (VC.core w.heap.size)).map (·.d) = T.map (·.d) := by simp [VC.core]
 have c3 : (T.map (VC.core w.heap.size)).map (·.pre) = T.map (·.pre) := by simp [VC.core]
 have c4 : (T.map (VC.core w.heap.size)).map (·.pure) = T.map (·.pure) := by simp [VC.core]
 have hE := Jo (P := P) (md := .any) (ops := ops) (Q := NoPanic Q) (S := fun w' => Mem n0 w0 w' M) (T.map (VC.core w.heap.size)) (Array.replicate ops.size false) a w w.drew fuel (by rw [c2]; exact F.all hN) (by rw [c1, c3, c4]; exact hok) (by rw [c2]; exact hnd) hops
  (fun _ hb => H.on hb) (Below.refl _ _).drew hsel (fun _ _ _ _ _ h => h) hpure hstep ?_
 ·rw [List.length_map, hfuel] at hE
  exact hE
 ·intro vs w' hc
  rw [c1, c2, List.length_map]
  have hlay := Jdz (b := w.heap.size) (w := w') T vs (by rw [hc.lv, List.length_map]) (fun k c hk => hc.ok k (VC.core w.heap.size c) (by rw [List.getElem?_map, hk]; rfl) (by rw [List.getElem?_replicate, if_pos (by simpa using (List.getElem?_eq_some_iff.1 hk).1)]))
   (fun k j c d hk hj hcn hdn hne => hc.far k j (VC.core w.heap.size c) (VC.core w.heap.size d) (by rw [List.getElem?_map, hk]; rfl) (by rw [List.getElem?_map, hj]; rfl) hcn hdn hne (by rw [List.getElem?_replicate, if_pos (by simpa using (List.getElem?_eq_some_iff.1 hk).1)]) (by rw [List.getElem?_replicate, if_pos (by simpa using (List.getElem?_eq_some_iff.1 hj).1)]))
  obtain ⟨gs, rs, e1, e0, e2, e3, e4, e5, -⟩ := Xv T vs hlay
  have hM := H.on hc.bel
  have hb := Nat.le_trans H.le H.bel.size
  refine hend gs rs _ w' e1 e0 (F.over hnd hN (Wm T gs rs) (fun x hx => ?_) fun s v hs => ?_) ⟨hM.le, hM.bel, hM.oth, fun x hx => ?_, fun x hx => ?_, ?_⟩
  ·obtain ⟨k, hk, rfl⟩ := List.getElem_of_mem hx
   refine ⟨k, ?_, ?_⟩
   ·rw [← Vw T gs rs, List.getElem?_map, List.getElem?_eq_getElem hk]; rfl
   ·rw [e2, List.getElem?_map, List.getElem?_eq_getElem hk]; rfl
  ·rcases Jdy _ _ _ _ hs with h | h
   ·exact Or.inl h
   ·right; rwa [Vw] at h
  ·rcases List.mem_append.1 hx with hx | hx
   ·exact e3 x hx
   ·exact hM.at_ x hx
  ·rcases List.mem_append.1 hx with hx | hx
   ·exact Nat.le_trans hb (e4 _ (Ut T gs x hx))
   ·exact hM.own x hx
  ·rw [List.map_append, List.nodup_append]
   refine ⟨Wg T gs e5, hM.nd, fun x hx y hy e => ?_⟩
   obtain ⟨z, hz, rfl⟩ := List.mem_map.1 hx
   obtain ⟨z', hz', rfl⟩ := List.mem_map.1 hy
   have h1 := e4 _ (Ut T gs z hz)
   have h2 := H.lt z' hz'
   omega
variable {S : World → Prop} {md : Region.Mode} {fuel i : Nat} {listed : Array Bool}
theorem Kx {x : Operand} {d : Nat} {ty : TypeId} {pos : String} {after : Array Edge} {v : Value} (F : Fr a N L df) (hS : S w) (hr : Region.ready md ops listed = [i]) (ho : ops[i]? = some ⟨some d, .assign x, ty, pos, after, none⟩) (hd : Nat.blt d N = true) (hx : a.eval x = v)
  (h : ∀ a', Fr a' N ((d, v) :: L) df → wpAnyH P md ops Q S fuel (listed.setIfInBounds i true) a' w) : wpAnyH P md ops Q S (fuel + 1) listed a w :=
 Ko x d ty pos after v hr ho hx hS (h _ (F.put v hd))
theorem Ul {k g j : Nat} {o : Oper} {t : TypeId} {cs : Array Value} {vs : List Value} (H : Mem n0 w0 w M) (hr : Region.ready md ops listed = [i]) (ho : ops[i]? = some o) (hg : o.guard = none) (hdst : o.dst = none) (hk : M[k]? = some (g, t, cs))
  (hrun : (execOp a.eval o).run P w = .ok .skip (puts w g j vs)) {M2 : List (Nat × TypeId × Array Value)} (hM2 : M.set k (g, t, Jew cs j vs) = M2) (hS : ∀ w', Mem n0 w0 w' M2 → S w')
  (h : ∀ w', Mem n0 w0 w' M2 → wpAnyH P md ops Q S fuel (listed.setIfInBounds i true) a w') : wpAnyH P md ops Q S (fuel + 1) listed a w := by
 have hM := Mem.puts vs H hk j
 rw [hM2] at hM
 refine Xp hr ho fun K hK => Ui hg (Wl hrun ?_)
 rw [hdst]
 exact hK.out _ _ (hS _ hM) (h _ hM)
theorem Mem.tail {n0 : Nat} {w0 w : World} {A M : List (Nat × TypeId × Array Value)} (H : Mem n0 w0 w (A ++ M)) : Mem n0 w0 w M :=
 ⟨H.le, H.bel, H.oth, fun x hx => H.at_ x (List.mem_append_right _ hx), fun x hx => H.own x (List.mem_append_right _ hx), by have := H.nd; rw [List.map_append] at this; exact (List.nodup_append.1 this).2.1⟩
theorem Kn (hr : Region.ready md ops listed = []) (h : Q .normal a w) : ∀ fuel, wpAnyH P md ops (NoPanic Q) S fuel listed a w := wpAnyH_done hr (NoPanic.normal h)
end
section
variable {P : Program} {ops : Array Oper} {Q : Exit → Act → World → Prop} {S : World → Prop} {a : Act} {W : World} {cores : List Core}
theorem Xb (c : Core) (op : Op) (n : Nat) (t : TypeId) (cs : Array Value) (ty : TypeId) (pos : String) (after : Array Edge)
  (ho : ops[c.i]? = some ⟨some c.d, op, ty, pos, after, none⟩) (hk : c.kind = Kind.cell n t cs) (hn : n ≤ W.heap.size)
  (hr : ∀ (ρ : Operand → Value) (w : World), (execOp ρ ⟨some c.d, op, ty, pos, after, none⟩).run P w = .ok (.value (.pointer (some ⟨w.heap.size, 0, none⟩))) (w.alloc (.cells cs t))) : Vm P ops Q a W cores c := by
 intro vs w hl hb hp o ho' K hK
 rw [ho] at ho'
 obtain rfl := Option.some.inj ho'
 refine Ui rfl (Ud (hr _ w) ?_)
 exact hK.out _ _ (gr_alloc (Below.refl _ _) _) (by rw [hk]; exact ⟨_, rfl, Nat.le_trans hn hb.size, At.new _ _ _⟩) (fun _ => ⟨rfl, by simp⟩)
theorem Jz (c : Core) (op : Op) (ty : TypeId) (pos : String) (after : Array Edge) (gd : Option (Nat × Bool)) (u : Value)
  (ho : ops[c.i]? = some ⟨some c.d, op, ty, pos, after, gd⟩) (hk : c.kind = Kind.val u) (hg : Jay ops a cores c.pre gd true)
  (h : ∀ (ρ : Operand → Value) (w : World), (∀ (x : Operand) (v : Value), Ve a cores c.pre x v → ρ x = v) → S w → (execOp ρ ⟨some c.d, op, ty, pos, after, gd⟩).run P w = .ok (.value u) w) : Va P ops S a W cores c :=
 Ux c _ ty pos after gd u ho hk hg fun vs w hl hp w' hS => h _ w' (fun x v hx => hx vs w hl hp) hS
theorem crS {c : Core} {op : Op} {ty : TypeId} {pos : String} {after : Array Edge} {gd : Option (Nat × Bool)} {u : Value} (h : ∀ (ρ : Operand → Value) (w : World), (∀ (x : Operand) (v : Value), Ve a cores c.pre x v → ρ x = v) → S w → (execOp ρ ⟨some c.d, op, ty, pos, after, gd⟩).run P w = .ok (.value u) w)
    (ho : ops[c.i]? = some ⟨some c.d, op, ty, pos, after, gd⟩ := by rfl) (hk : c.kind = Kind.val u := by rfl) (hg : Jay ops a cores c.pre gd true := by exact Jc) : Va P ops S a W cores c := Jz c op ty pos after gd u ho hk hg h
end
theorem nl0 (gs : List Nat) (h : gs.length = 0) : gs = [] := List.length_eq_zero_iff.1 h
theorem nl1 (gs : List Nat) (h : gs.length = 1) : ∃ a, gs = [a] := by
 match gs, h with
 | [a], _ => exact ⟨a, rfl⟩
theorem nl2 (gs : List Nat) (h : gs.length = 2) : ∃ a b, gs = [a, b] := by
 match gs, h with
 | [a, b], _ => exact ⟨a, b, rfl⟩
abbrev rcs (N Y : Nat) (s : Value) : Array Value := #[.int .u64 (wd N 0), .int .u64 (wd N 1), .int .u64 (wd N 2), .int .u64 (wd N 3), .int .u64 (wd Y 0), .int .u64 (wd Y 1), .int .u64 (wd Y 2), .int .u64 (wd Y 3), s]
theorem Wz {Q : Exit → Act → World → Prop} {K : Act → World → Prop} {i : Nat} {a : Act} {w : World} (h : Q (.exit i) a w) : Exit.then K Q (.exit i) a w := h
theorem Wf {Q : Exit → Act → World → Prop} {i : Nat} {a : Act} {w : World} (h : Q .normal a w) : Exit.inBlock i Q (.exit i) a w := by simp only [Exit.inBlock, if_true]; exact h
theorem Wx {P : Program} {c : Code} {Q : Exit → Act → World → Prop} {n : Nat} {a : Act} {w : World} (h : c.wp P (Exit.then (Code.rounds P c Q n) Q) a w) : Code.rounds P c Q (n + 1) a w := h
section
variable {x y z : Operand} {dst : Option Tmp} {ty : TypeId} {pos : String} {after : Array Edge} {guard : Option (Nat × Bool)} {ρ : Operand → Value} {w : World} {g o : Nat} {P : Program}
theorem Jei {f : FuncId} {u : Value} (hx : ρ x = u) : (execOp ρ ⟨dst, .makeFunc (.func f) #[] #[x], ty, pos, after, guard⟩).run P w = .ok (.value (.func (.func f) #[] #[u])) w := by simp [execOp, hx, go_sem]
theorem o_mk3 {f : FuncId} {u v t : Value} (hx : ρ x = u) (hy : ρ y = v) (hz : ρ z = t) : (execOp ρ ⟨dst, .makeFunc (.func f) #[] #[x, y, z], ty, pos, after, guard⟩).run P w = .ok (.value (.func (.func f) #[] #[u, v, t])) w := by simp [execOp, hx, hy, hz, go_sem]
theorem o_buildF6 {x0 x1 x2 x3 x4 x5 : Operand} {f0 : FuncId} {c0 : Array Value} {f1 : FuncId} {c1 : Array Value} {f2 : FuncId} {c2 : Array Value} {f3 : FuncId} {c3 : Array Value} {f4 : FuncId} {c4 : Array Value} {f5 : FuncId} {c5 : Array Value} (h0 : ρ x0 = .func (.func f0) #[] c0) (h1 : ρ x1 = .func (.func f1) #[] c1) (h2 : ρ x2 = .func (.func f2) #[] c2) (h3 : ρ x3 = .func (.func f3) #[] c3) (h4 : ρ x4 = .func (.func f4) #[] c4) (h5 : ρ x5 = .func (.func f5) #[] c5) : (execOp ρ ⟨dst, .build 54 #[(0, x0), (1, x1), (2, x2), (3, x3), (4, x4), (5, x5)], ty, pos, after, guard⟩).run Tryz.prog w = .ok (.value (.agg #[.func (.func f0) #[] c0, .func (.func f1) #[] c1, .func (.func f2) #[] c2, .func (.func f3) #[] c3, .func (.func f4) #[] c4, .func (.func f5) #[] c5])) w := by
 simp [execOp, h0, h1, h2, h3, h4, h5, go_sem]
theorem o_allocF : (execOp ρ ⟨dst, .alloc 54, ty, pos, after, guard⟩).run Tryz.prog w = .ok (.value (.pointer (some ⟨w.heap.size, 0, none⟩))) (w.alloc (.cells #[.nilFunc, .nilFunc, .nilFunc, .nilFunc, .nilFunc, .nilFunc] 54)) := by simp [execOp, go_sem]
theorem o_storeF {u0 u1 u2 u3 u4 u5 : Value} {f0 : FuncId} {c0 : Array Value} {f1 : FuncId} {c1 : Array Value} {f2 : FuncId} {c2 : Array Value} {f3 : FuncId} {c3 : Array Value} {f4 : FuncId} {c4 : Array Value} {f5 : FuncId} {c5 : Array Value} (hx : ρ x = .pointer (some ⟨g, 0, none⟩)) (hy : ρ y = .agg #[.func (.func f0) #[] c0, .func (.func f1) #[] c1, .func (.func f2) #[] c2, .func (.func f3) #[] c3, .func (.func f4) #[] c4, .func (.func f5) #[] c5]) (h : At w g 54 #[u0, u1, u2, u3, u4, u5]) : (execOp ρ ⟨dst, .store 54 x y, ty, pos, after, guard⟩).run Tryz.prog w = .ok .skip (puts w g 0 [.func (.func f0) #[] c0, .func (.func f1) #[] c1, .func (.func f2) #[] c2, .func (.func f3) #[] c3, .func (.func f4) #[] c4, .func (.func f5) #[] c5]) := by
 have c0 : w.cell? ⟨g, 0, none⟩ = some u0 := h.cell 0
 have k0 : w.frozen? ⟨g, 0, none⟩ = false := h.frozen 0
 have c1 : w.cell? ⟨g, 1, none⟩ = some u1 := h.cell 1
 have k1 : w.frozen? ⟨g, 1, none⟩ = false := h.frozen 1
 have c2 : w.cell? ⟨g, 2, none⟩ = some u2 := h.cell 2
 have k2 : w.frozen? ⟨g, 2, none⟩ = false := h.frozen 2
 have c3 : w.cell? ⟨g, 3, none⟩ = some u3 := h.cell 3
 have k3 : w.frozen? ⟨g, 3, none⟩ = false := h.frozen 3
 have c4 : w.cell? ⟨g, 4, none⟩ = some u4 := h.cell 4
 have k4 : w.frozen? ⟨g, 4, none⟩ = false := h.frozen 4
 have c5 : w.cell? ⟨g, 5, none⟩ = some u5 := h.cell 5
 have k5 : w.frozen? ⟨g, 5, none⟩ = false := h.frozen 5
 simp [execOp, hx, hy, go_sem, puts, c0, k0, c1, k1, c2, k2, c3, k3, c4, k4, c5, k5]
theorem o_loadF {u0 u1 u2 u3 u4 u5 : Value} (hx : ρ x = .pointer (some ⟨g, 0, none⟩)) (h : At w g 54 #[u0, u1, u2, u3, u4, u5]) : (execOp ρ ⟨dst, .load 54 x, ty, pos, after, guard⟩).run Tryz.prog w = .ok (.value (.agg #[u0, u1, u2, u3, u4, u5])) w := by
 have c0 : w.cell? ⟨g, 0, none⟩ = some u0 := h.cell 0
 have c1 : w.cell? ⟨g, 1, none⟩ = some u1 := h.cell 1
 have c2 : w.cell? ⟨g, 2, none⟩ = some u2 := h.cell 2
 have c3 : w.cell? ⟨g, 3, none⟩ = some u3 := h.cell 3
 have c4 : w.cell? ⟨g, 4, none⟩ = some u4 := h.cell 4
 have c5 : w.cell? ⟨g, 5, none⟩ = some u5 := h.cell 5
 simp [execOp, hx, go_sem, c0, c1, c2, c3, c4, c5]
theorem Jba {f0 : FuncId} {c0 : Array Value} {f1 : FuncId} {c1 : Array Value} {f2 : FuncId} {c2 : Array Value} {f3 : FuncId} {c3 : Array Value} {f4 : FuncId} {c4 : Array Value} {f5 : FuncId} {c5 : Array Value} {u : Value} {i : Nat} (hx : ρ x = .agg #[.func (.func f0) #[] c0, .func (.func f1) #[] c1, .func (.func f2) #[] c2, .func (.func f3) #[] c3, .func (.func f4) #[] c4, .func (.func f5) #[] c5]) (hy : ρ y = .int .i64 (i : Nat)) (hu : (#[.func (.func f0) #[] c0, .func (.func f1) #[] c1, .func (.func f2) #[] c2, .func (.func f3) #[] c3, .func (.func f4) #[] c4, .func (.func f5) #[] c5] : Array Value)[i]? = some u) : (execOp ρ ⟨dst, .index 54 x y, ty, pos, after, guard⟩).run Tryz.prog w = .ok (.value u) w := by
 match i, hu with
 | 0, hu => simp at hu; subst hu; simp [execOp, hx, hy, go_sem, Instr.index, part, asIntOf, isAgg]
 | 1, hu => simp at hu; subst hu; simp [execOp, hx, hy, go_sem, Instr.index, part, asIntOf, isAgg]
 | 2, hu => simp at hu; subst hu; simp [execOp, hx, hy, go_sem, Instr.index, part, asIntOf, isAgg]
 | 3, hu => simp at hu; subst hu; simp [execOp, hx, hy, go_sem, Instr.index, part, asIntOf, isAgg]
 | 4, hu => simp at hu; subst hu; simp [execOp, hx, hy, go_sem, Instr.index, part, asIntOf, isAgg]
 | 5, hu => simp at hu; subst hu; simp [execOp, hx, hy, go_sem, Instr.index, part, asIntOf, isAgg]
theorem Um {f : FuncId} {fn : Func} {c : Code} {a : Act} {cap : Array Value} (hf : P.funcs[f]? = some fn) (hname : (fn.name == "runtime.NumGoroutine") = false) (hb : fn.body = some c) {tys : Array TypeId} (hx : a.eval x = .func (.func f) #[] cap) (w : World) :
  (execOp a.eval ⟨dst, .call ⟨.value x, #[], tys⟩, ty, pos, after, guard⟩).run P w = .ok (.enter f cap) w := by
 have h := Vx hf hname hb cap w
 simp only [execOp, resolve, hx]
 simpa [Deferred.ofValue, invoke, go_sem] using h
theorem Jde {N Y : Nat} {s : Value} {pa : Option Addr} {l cap : Nat} (hx : ρ x = rv N Y s) (hs : s = .slice pa l cap) : (execOp ρ ⟨dst, .box 29 x, ty, pos, after, guard⟩).run Tryz.prog w = .ok (.value (.pointer (some ⟨w.heap.size, 0, none⟩))) (w.alloc (.cells (rcs N Y s) 29)) := by subst hs; simp [execOp, hx, go_sem]
theorem Kj (hx : ρ x = .pointer (some ⟨g, 0, none⟩)) : (execOp ρ ⟨dst, .fieldAddr 29 x 0, ty, pos, after, guard⟩).run Tryz.prog w = .ok (.value (.pointer (some ⟨g, 0, none⟩))) w := Wy x _ ty pos after guard ρ w g hx
theorem Ks {N Y : Nat} {s : Value} (hx : ρ x = .pointer (some ⟨g, 0, none⟩)) (h : At w g 29 (rcs N Y s)) : (execOp ρ ⟨dst, .load 24 x, ty, pos, after, guard⟩).run Tryz.prog w = .ok (.value (num N)) w := Jas x _ ty pos after guard ρ w g _ _ _ _ _ _ _ _ _ hx h
theorem Wa {N Y : Nat} {s : Value} (hx : ρ x = .pointer (some ⟨g, 0, none⟩)) (h : At w g 29 (rcs N Y s)) : (execOp ρ ⟨dst, .load 29 x, ty, pos, after, guard⟩).run Tryz.prog w = .ok (.value (rv N Y s)) w := loadR x _ ty pos after guard ρ w g _ _ _ _ _ _ _ _ _ hx h
end
end Go.Proofs.YtodlpmepoakdlaaGreat
