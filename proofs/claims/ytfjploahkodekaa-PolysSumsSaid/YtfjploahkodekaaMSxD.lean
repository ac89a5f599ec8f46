/-
  A region that draws its order, gone through in one step: frames and blocks as lists.
-/
import Derived.Test.YtfjploahkodekaaMRng
import Derived.Test.YtfjploahkodekaaMSxN
namespace Go.Proofs.Ytfjploahkodekaa
set_option maxRecDepth 100000
open Go.RowKit
set_option linter.unusedSimpArgs false
set_option linter.unusedVariables false

/-- what an operation leaves: a value, or a block of its own -/
inductive VK
  | val (u : Value)
  | cell (t : TypeId) (cs : Array Value)
  | row (t : TypeId) (cs : Array Value) (l : Nat)
  | own (t : TypeId) (cs : Array Value) (l : Nat)
  | two (n : Nat) (q : Nat → Nat → World → Prop) (st : ∀ g c w w', q g c w → Below w.heap.size w w' → q g c w')
structure VC where
  i : Nat
  d : Nat
  pre : List Nat
  k : VK
  pure : Bool
/-- a slice of a row of its own -/
def Kind.row (t : TypeId) (cs : Array Value) (l : Nat) : Kind := ⟨false, fun v w => ∃ g, v = .slice (some ⟨g, 0, none⟩) l l ∧ At w g t cs, fun _ _ _ ⟨g, h1, h2⟩ hb => ⟨g, h1, h2.on hb⟩⟩
/-- the same, that was not there ahead -/
def Kind.own (b : Nat) (t : TypeId) (cs : Array Value) (l : Nat) : Kind := ⟨false, fun v w => ∃ g, v = .slice (some ⟨g, 0, none⟩) l l ∧ b ≤ g ∧ At w g t cs, fun _ _ _ ⟨g, h1, h0, h2⟩ hb => ⟨g, h1, h0, h2.on hb⟩⟩
/-- a slice of which two numbers are told -/
def Kind.two (n : Nat) (q : Nat → Nat → World → Prop) (st : ∀ g c w w', q g c w → Below w.heap.size w w' → q g c w') : Kind := ⟨false, fun v w => ∃ g c, v = .slice (some ⟨g, 0, none⟩) n c ∧ q g c w, fun _ _ _ ⟨g, c, h1, h2⟩ hb => ⟨g, c, h1, st _ _ _ _ h2 hb⟩⟩
def VK.kind (b : Nat) : VK → Kind
  | .two n q st => Kind.two n q st
  | .own t cs l => Kind.own b t cs l
  | .row t cs l => Kind.row t cs l
  | .val u => Kind.val u
  | .cell t cs => Kind.cell b t cs
def VC.core (b : Nat) (c : VC) : Core := ⟨c.i, c.d, c.pre, c.k.kind b, c.pure⟩
def cellsOfT : List VC → Nat
  | [] => 0
  | ⟨_, _, _, .val _, _⟩ :: T => cellsOfT T
  | ⟨_, _, _, .row _ _ _, _⟩ :: T => cellsOfT T
  | ⟨_, _, _, .own _ _ _, _⟩ :: T => cellsOfT T
  | ⟨_, _, _, .two _ _ _, _⟩ :: T => cellsOfT T
  | ⟨_, _, _, .cell _ _, _⟩ :: T => cellsOfT T + 1
def rowsOfT : List VC → Nat
  | [] => 0
  | ⟨_, _, _, .val _, _⟩ :: T => rowsOfT T
  | ⟨_, _, _, .cell _ _, _⟩ :: T => rowsOfT T
  | ⟨_, _, _, .row _ _ _, _⟩ :: T => rowsOfT T + 1
  | ⟨_, _, _, .own _ _ _, _⟩ :: T => rowsOfT T + 1
  | ⟨_, _, _, .two _ _ _, _⟩ :: T => rowsOfT T + 1 + 1
def slots : List VC → List Nat → List Nat → List (Nat × Value)
  | [], _, _ => []
  | ⟨_, d, _, .val u, _⟩ :: T, gs, rs => (d, u) :: slots T gs rs
  | ⟨_, d, _, .cell _ _, _⟩ :: T, g :: gs, rs => (d, .pointer (some ⟨g, 0, none⟩)) :: slots T gs rs
  | ⟨_, d, _, .cell _ _, _⟩ :: T, [], rs => (d, undef) :: slots T [] rs
  | ⟨_, d, _, .row _ _ l, _⟩ :: T, gs, r :: rs => (d, .slice (some ⟨r, 0, none⟩) l l) :: slots T gs rs
  | ⟨_, d, _, .row _ _ _, _⟩ :: T, gs, [] => (d, undef) :: slots T gs []
  | ⟨_, d, _, .own _ _ l, _⟩ :: T, gs, r :: rs => (d, .slice (some ⟨r, 0, none⟩) l l) :: slots T gs rs
  | ⟨_, d, _, .own _ _ _, _⟩ :: T, gs, [] => (d, undef) :: slots T gs []
  | ⟨_, d, _, .two n _ _, _⟩ :: T, gs, r :: c :: rs => (d, .slice (some ⟨r, 0, none⟩) n c) :: slots T gs rs
  | ⟨_, d, _, .two _ _ _, _⟩ :: T, gs, [_] => (d, undef) :: slots T gs []
  | ⟨_, d, _, .two _ _ _, _⟩ :: T, gs, [] => (d, undef) :: slots T gs []
def blocks : List VC → List Nat → List (Nat × TypeId × Array Value)
  | [], _ => []
  | ⟨_, _, _, .val _, _⟩ :: T, gs => blocks T gs
  | ⟨_, _, _, .row _ _ _, _⟩ :: T, gs => blocks T gs
  | ⟨_, _, _, .own _ _ _, _⟩ :: T, gs => blocks T gs
  | ⟨_, _, _, .two _ _ _, _⟩ :: T, gs => blocks T gs
  | ⟨_, _, _, .cell t cs, _⟩ :: T, g :: gs => (g, t, cs) :: blocks T gs
  | ⟨_, _, _, .cell _ _, _⟩ :: T, [] => blocks T []
theorem slots_d : ∀ (T : List VC) (gs rs : List Nat), (slots T gs rs).map (·.1) = T.map (·.d)
  | [], _, _ => rfl
  | ⟨_, _, _, .val _, _⟩ :: T, gs, rs => by simp [slots, slots_d T gs rs]
  | ⟨_, _, _, .cell _ _, _⟩ :: T, g :: gs, rs => by simp [slots, slots_d T gs rs]
  | ⟨_, _, _, .cell _ _, _⟩ :: T, [], rs => by simp [slots, slots_d T [] rs]
  | ⟨_, _, _, .row _ _ _, _⟩ :: T, gs, r :: rs => by simp [slots, slots_d T gs rs]
  | ⟨_, _, _, .row _ _ _, _⟩ :: T, gs, [] => by simp [slots, slots_d T gs []]
  | ⟨_, _, _, .own _ _ _, _⟩ :: T, gs, r :: rs => by simp [slots, slots_d T gs rs]
  | ⟨_, _, _, .own _ _ _, _⟩ :: T, gs, [] => by simp [slots, slots_d T gs []]
  | ⟨_, _, _, .two _ _ _, _⟩ :: T, gs, r :: c :: rs => by simp [slots, slots_d T gs rs]
  | ⟨_, _, _, .two _ _ _, _⟩ :: T, gs, [_] => by simp [slots, slots_d T gs []]
  | ⟨_, _, _, .two _ _ _, _⟩ :: T, gs, [] => by simp [slots, slots_d T gs []]
theorem blocks_in : ∀ (T : List VC) (gs : List Nat) (x), x ∈ blocks T gs → x.1 ∈ gs
  | [], _, _, h => by simp [blocks] at h
  | ⟨_, _, _, .val _, _⟩ :: T, gs, x, h => blocks_in T gs x (by simpa [blocks] using h)
  | ⟨_, _, _, .row _ _ _, _⟩ :: T, gs, x, h => blocks_in T gs x (by simpa [blocks] using h)
  | ⟨_, _, _, .own _ _ _, _⟩ :: T, gs, x, h => blocks_in T gs x (by simpa [blocks] using h)
  | ⟨_, _, _, .two _ _ _, _⟩ :: T, gs, x, h => blocks_in T gs x (by simpa [blocks] using h)
  | ⟨_, _, _, .cell _ _, _⟩ :: T, g :: gs, x, h => by
    rcases List.mem_cons.1 (show x ∈ (g, _, _) :: blocks T gs from h) with rfl | h
    · exact List.mem_cons_self
    · exact List.mem_cons_of_mem _ (blocks_in T gs x h)
  | ⟨_, _, _, .cell _ _, _⟩ :: T, [], x, h => blocks_in T [] x (by simpa [blocks] using h)

def LayT (b : Nat) (w : World) : List VC → List Value → Prop
  | [], [] => True
  | c :: T, v :: vs => (c.k.kind b).p v w ∧ ((c.k.kind b).new = true → ∀ (j : Nat) (d : VC), T[j]? = some d → (d.k.kind b).new = true → vs[j]? ≠ some v) ∧ LayT b w T vs
  | _, _ => False
theorem lay_of {b : Nat} {w : World} : ∀ (T : List VC) (vs : List Value), vs.length = T.length → (∀ (k : Nat) (c : VC), T[k]? = some c → ∃ v, vs[k]? = some v ∧ (c.k.kind b).p v w) →
    (∀ (k j : Nat) (c d : VC), T[k]? = some c → T[j]? = some d → (c.k.kind b).new = true → (d.k.kind b).new = true → k ≠ j → vs[k]? ≠ vs[j]?) → LayT b w T vs
  | [], [], _, _, _ => trivial
  | c :: T, v :: vs, hl, h1, h2 => by
    refine ⟨?_, fun hn j d hd hdn he => ?_, lay_of T vs (by simpa using hl) (fun k c hc => ?_) fun k j c d hc hd hcn hdn hne => ?_⟩
    · obtain ⟨u, hu, hp⟩ := h1 0 c rfl
      simp at hu; subst hu; exact hp
    · exact h2 0 (j + 1) c d rfl (by simpa using hd) hn hdn (by omega) (by simp [he])
    · obtain ⟨u, hu, hp⟩ := h1 (k + 1) c (by simpa using hc)
      exact ⟨u, by simpa using hu, hp⟩
    · have := h2 (k + 1) (j + 1) c d (by simpa using hc) (by simpa using hd) hcn hdn (by omega)
      simpa using this
  | [], _ :: _, hl, _, _ => by simp at hl
  | _ :: _, [], hl, _, _ => by simp at hl
theorem lay_open {b : Nat} {w : World} : ∀ (T : List VC) (vs : List Value), LayT b w T vs → ∃ gs rs : List Nat, gs.length = cellsOfT T ∧ rs.length = rowsOfT T ∧ vs = (slots T gs rs).map (·.2) ∧ (∀ x ∈ blocks T gs, At w x.1 x.2.1 x.2.2) ∧ (∀ g ∈ gs, b ≤ g) ∧
    gs.Nodup ∧ (∀ g ∈ gs, ∃ (j : Nat) (d : VC), T[j]? = some d ∧ (d.k.kind b).new = true ∧ vs[j]? = some (.pointer (some ⟨g, 0, none⟩)))
  | [], [], _ => ⟨[], [], rfl, rfl, rfl, fun _ h => (by cases h), fun _ h => (by cases h), List.nodup_nil, fun _ h => (by cases h)⟩
  | ⟨i, d, pre, .val u, p⟩ :: T, v :: vs, ⟨h1, _, h3⟩ => by
    obtain ⟨gs, rs, e1, e0, e2, e3, e4, e5, e6⟩ := lay_open T vs h3
    have hv : v = u := h1
    subst hv
    refine ⟨gs, rs, e1, e0, by simp [slots, ← e2], e3, e4, e5, fun g hg => ?_⟩
    obtain ⟨j, d', hd, hn, hv⟩ := e6 g hg
    exact ⟨j + 1, d', by simpa using hd, hn, by simpa using hv⟩
  | ⟨i, d, pre, .row t cs l, p⟩ :: T, v :: vs, ⟨h1, _, h3⟩ => by
    obtain ⟨gs, rs, e1, e0, e2, e3, e4, e5, e6⟩ := lay_open T vs h3
    obtain ⟨r, rfl, hat⟩ : ∃ g, v = .slice (some ⟨g, 0, none⟩) l l ∧ At w g t cs := h1
    refine ⟨gs, r :: rs, e1, by simp [rowsOfT, e0], by simp [slots, ← e2], e3, e4, e5, fun g hg => ?_⟩
    obtain ⟨j, d', hd, hn, hv⟩ := e6 g hg
    exact ⟨j + 1, d', by simpa using hd, hn, by simpa using hv⟩
  | ⟨i, d, pre, .own t cs l, p⟩ :: T, v :: vs, ⟨h1, _, h3⟩ => by
    obtain ⟨gs, rs, e1, e0, e2, e3, e4, e5, e6⟩ := lay_open T vs h3
    obtain ⟨r, rfl, _, hat⟩ : ∃ g, v = .slice (some ⟨g, 0, none⟩) l l ∧ b ≤ g ∧ At w g t cs := h1
    refine ⟨gs, r :: rs, e1, by simp [rowsOfT, e0], by simp [slots, ← e2], e3, e4, e5, fun g hg => ?_⟩
    obtain ⟨j, d', hd, hn, hv⟩ := e6 g hg
    exact ⟨j + 1, d', by simpa using hd, hn, by simpa using hv⟩
  | ⟨i, d, pre, .two n q st, p⟩ :: T, v :: vs, ⟨h1, _, h3⟩ => by
    obtain ⟨gs, rs, e1, e0, e2, e3, e4, e5, e6⟩ := lay_open T vs h3
    obtain ⟨r, c, rfl, hat⟩ : ∃ g c, v = .slice (some ⟨g, 0, none⟩) n c ∧ q g c w := h1
    refine ⟨gs, r :: c :: rs, e1, by simp [rowsOfT, e0], by simp [slots, ← e2], e3, e4, e5, fun g hg => ?_⟩
    obtain ⟨j, d', hd, hn, hv⟩ := e6 g hg
    exact ⟨j + 1, d', by simpa using hd, hn, by simpa using hv⟩
  | ⟨i, d, pre, .cell t cs, p⟩ :: T, v :: vs, ⟨h1, h2, h3⟩ => by
    obtain ⟨gs, rs, e1, e0, e2, e3, e4, e5, e6⟩ := lay_open T vs h3
    obtain ⟨g, rfl, hb, hat⟩ : ∃ g, v = .pointer (some ⟨g, 0, none⟩) ∧ b ≤ g ∧ At w g t cs := h1
    refine ⟨g :: gs, rs, by simp [cellsOfT, e1], e0, by simp [slots, ← e2], fun x hx => ?_, fun x hx => ?_, ?_, fun x hx => ?_⟩
    · rcases List.mem_cons.1 (show x ∈ (g, t, cs) :: blocks T gs from hx) with rfl | hx
      · exact hat
      · exact e3 x hx
    · rcases List.mem_cons.1 hx with rfl | hx
      · exact hb
      · exact e4 x hx
    · refine List.nodup_cons.2 ⟨fun hg => ?_, e5⟩
      obtain ⟨j, d', hd, hn, hv⟩ := e6 g hg
      exact h2 rfl j d' hd hn hv
    · rcases List.mem_cons.1 hx with rfl | hx
      · exact ⟨0, _, rfl, rfl, rfl⟩
      · obtain ⟨j, d', hd, hn, hv⟩ := e6 x hx
        exact ⟨j + 1, d', by simpa using hd, hn, by simpa using hv⟩
  | [], _ :: _, h => h.elim
  | _ :: _, [], h => h.elim
theorem blocks_nd : ∀ (T : List VC) (gs : List Nat), gs.Nodup → ((blocks T gs).map (·.1)).Nodup
  | [], _, _ => by simp [blocks]
  | ⟨_, _, _, .val _, _⟩ :: T, gs, h => by simpa [blocks] using blocks_nd T gs h
  | ⟨_, _, _, .row _ _ _, _⟩ :: T, gs, h => by simpa [blocks] using blocks_nd T gs h
  | ⟨_, _, _, .own _ _ _, _⟩ :: T, gs, h => by simpa [blocks] using blocks_nd T gs h
  | ⟨_, _, _, .two _ _ _, _⟩ :: T, gs, h => by simpa [blocks] using blocks_nd T gs h
  | ⟨_, _, _, .cell _ _, _⟩ :: T, g :: gs, h => by
    obtain ⟨h1, h2⟩ := List.nodup_cons.1 h
    show (g :: (blocks T gs).map (·.1)).Nodup
    refine List.nodup_cons.2 ⟨fun hg => h1 ?_, blocks_nd T gs h2⟩
    obtain ⟨x, hx, rfl⟩ := List.mem_map.1 hg
    exact blocks_in T gs x hx
  | ⟨_, _, _, .cell _ _, _⟩ :: T, [], h => by simpa [blocks] using blocks_nd T [] h

section
variable {P : Program} {ops : Array Oper} {Q : Exit → Act → World → Prop} {a : Act} {n0 : Nat} {w w0 : World} {N : Nat} {L : List (Nat × Value)} {df : List Deferred} {M : List (Nat × TypeId × Array Value)}
theorem lk_app : ∀ (R L : List (Nat × Value)) (s : Nat) (v : Value), lk (R ++ L) s = some v → lk R s = some v ∨ s ∉ R.map (·.1)
  | [], _, _, _, _ => Or.inr (by simp)
  | (d, u) :: R, L, s, v, h => by
    by_cases e : d = s
    · subst e; simp [lk] at h; left; simp [lk, h]
    · have e' : Nat.beq d s = false := Bool.eq_false_iff.2 fun h => e (Nat.eq_of_beq_eq_true h)
      simp only [List.cons_append, lk, e', cond_false] at h
      rcases lk_app R L s v h with h | h
      · left; simp [lk, e', h]
      · right
        simp only [List.map_cons, List.mem_cons, not_or]
        exact ⟨fun h' => e h'.symm, h⟩
/-- all operations of T, in whatever order -/
theorem sx_drawn (T : List VC) (fuel : Nat) {id : Nat} (F : Fr a N L df) (H : Mem n0 w0 w M) (hm : P.follows .mixedOrders = true)
    (hN : (T.map (·.d)).all (fun d => Nat.ble (d + 1) N) = true) (hfuel : fuel + T.length = ops.size)
    (hok : okAll .any ops (Array.replicate ops.size false) (T.map (·.i)) (T.map (·.pre)) (T.map (·.pure)) = true) (hnd : (T.map (·.d)).Nodup)
    (hops : ∀ c ∈ T.map (VC.core w.heap.size), ∃ o, ops[c.i]? = some o ∧ o.dst = some c.d) (hsel : Region.noSelect ops = true)
    (hpure : ∀ c ∈ T.map (VC.core w.heap.size), PureOK P ops (fun w' => Mem n0 w0 w' M) a w (T.map (VC.core w.heap.size)) c)
    (hstep : ∀ c ∈ T.map (VC.core w.heap.size), c.pure = false → StepOK P ops (NoPanic Q) a w (T.map (VC.core w.heap.size)) c)
    (hend : ∀ gs rs a' w', gs.length = cellsOfT T → rs.length = rowsOfT T → Fr a' N (slots T gs rs ++ L) df → Mem n0 w0 w' (blocks T gs ++ M) → wpAnyH P .any ops (NoPanic Q) (fun w' => Mem n0 w0 w' M) fuel (mark (Array.replicate ops.size false) (T.map (·.i)) (List.replicate T.length true)) a' w') :
    (Code.region id ops true).wp P Q a w := by
  refine wp_region_noPanic ?_
  refine wp_region_held_drew (S := fun w' => Mem n0 w0 w' M) hm H.drew (fun _ => ?_)
  have c1 : (T.map (VC.core w.heap.size)).map (·.i) = T.map (·.i) := by simp [VC.core]
  have c2 : (T.map (VC.core w.heap.size)).map (·.d) = T.map (·.d) := by simp [VC.core]
  have c3 : (T.map (VC.core w.heap.size)).map (·.pre) = T.map (·.pre) := by simp [VC.core]
  have c4 : (T.map (VC.core w.heap.size)).map (·.pure) = T.map (·.pure) := by simp [VC.core]
  have hE := wpAnyH_cores (P := P) (md := .any) (ops := ops) (Q := NoPanic Q) (S := fun w' => Mem n0 w0 w' M) (T.map (VC.core w.heap.size)) (Array.replicate ops.size false) a w w.drew fuel (by rw [c2]; exact F.all hN) (by rw [c1, c3, c4]; exact hok) (by rw [c2]; exact hnd) hops
    (fun _ hb => H.on hb) (Below.refl _ _).drew hsel (fun _ _ _ _ _ h => h) hpure hstep ?_
  · rw [List.length_map, hfuel] at hE
    exact hE
  · intro vs w' hc
    rw [c1, c2, List.length_map]
    have hlay := lay_of (b := w.heap.size) (w := w') T vs (by rw [hc.lv, List.length_map]) (fun k c hk => hc.ok k (VC.core w.heap.size c) (by rw [List.getElem?_map, hk]; rfl) (by rw [List.getElem?_replicate, if_pos (by simpa using (List.getElem?_eq_some_iff.1 hk).1)]))
      (fun k j c d hk hj hcn hdn hne => hc.far k j (VC.core w.heap.size c) (VC.core w.heap.size d) (by rw [List.getElem?_map, hk]; rfl) (by rw [List.getElem?_map, hj]; rfl) hcn hdn hne (by rw [List.getElem?_replicate, if_pos (by simpa using (List.getElem?_eq_some_iff.1 hk).1)]) (by rw [List.getElem?_replicate, if_pos (by simpa using (List.getElem?_eq_some_iff.1 hj).1)]))
    obtain ⟨gs, rs, e1, e0, e2, e3, e4, e5, -⟩ := lay_open T vs hlay
    have hM := H.on hc.bel
    have hb := Nat.le_trans H.le H.bel.size
    refine hend gs rs _ w' e1 e0 (F.over hnd hN (slots T gs rs) (fun x hx => ?_) fun s v hs => ?_) ⟨hM.le, hM.bel, hM.oth, fun x hx => ?_, fun x hx => ?_, ?_⟩
    · obtain ⟨k, hk, rfl⟩ := List.getElem_of_mem hx
      refine ⟨k, ?_, ?_⟩
      · rw [← slots_d T gs rs, List.getElem?_map, List.getElem?_eq_getElem hk]; rfl
      · rw [e2, List.getElem?_map, List.getElem?_eq_getElem hk]; rfl
    · rcases lk_app _ _ _ _ hs with h | h
      · exact Or.inl h
      · right; rwa [slots_d] at h
    · rcases List.mem_append.1 hx with hx | hx
      · exact e3 x hx
      · exact hM.at_ x hx
    · rcases List.mem_append.1 hx with hx | hx
      · exact Nat.le_trans hb (e4 _ (blocks_in T gs x hx))
      · exact hM.own x hx
    · rw [List.map_append, List.nodup_append]
      refine ⟨blocks_nd T gs e5, hM.nd, fun x hx y hy e => ?_⟩
      obtain ⟨z, hz, rfl⟩ := List.mem_map.1 hx
      obtain ⟨z', hz', rfl⟩ := List.mem_map.1 hy
      have h1 := e4 _ (blocks_in T gs z hz)
      have h2 := H.lt z' hz'
      omega
variable {S : World → Prop} {md : Region.Mode} {fuel i : Nat} {listed : Array Bool}
/-- an assignment behind all -/
theorem sx_assign {x : Operand} {d : Nat} {ty : TypeId} {pos : String} {after : Array Edge} {v : Value} (F : Fr a N L df) (hS : S w) (hr : Region.ready md ops listed = [i]) (ho : ops[i]? = some ⟨some d, .assign x, ty, pos, after, none⟩) (hd : Nat.blt d N = true) (hx : a.eval x = v)
    (h : ∀ a', Fr a' N ((d, v) :: L) df → wpAnyH P md ops Q S fuel (listed.setIfInBounds i true) a' w) : wpAnyH P md ops Q S (fuel + 1) listed a w :=
  assign_one x d ty pos after v hr ho hx hS (h _ (F.put v hd))
/-- a store behind all -/
theorem sx_store {k g j : Nat} {o : Oper} {t : TypeId} {cs : Array Value} {vs : List Value} (H : Mem n0 w0 w M) (hr : Region.ready md ops listed = [i]) (ho : ops[i]? = some o) (hg : o.guard = none) (hdst : o.dst = none) (hk : M[k]? = some (g, t, cs))
    (hrun : (execOp a.eval o).run P w = .ok .skip (puts w g j vs)) {M2 : List (Nat × TypeId × Array Value)} (hM2 : M.set k (g, t, sets cs j vs) = M2) (hS : ∀ w', Mem n0 w0 w' M2 → S w')
    (h : ∀ w', Mem n0 w0 w' M2 → wpAnyH P md ops Q S fuel (listed.setIfInBounds i true) a w') : wpAnyH P md ops Q S (fuel + 1) listed a w := by
  have hM := Mem.puts vs H hk j
  rw [hM2] at hM
  refine wpAnyH_one hr ho fun K hK => want_none hg (wp_of_run_skip hrun ?_)
  rw [hdst]
  exact hK.out _ _ (hS _ hM) (h _ hM)
theorem Mem.tail {n0 : Nat} {w0 w : World} {A M : List (Nat × TypeId × Array Value)} (H : Mem n0 w0 w (A ++ M)) : Mem n0 w0 w M :=
  ⟨H.le, H.bel, H.oth, fun x hx => H.at_ x (List.mem_append_right _ hx), fun x hx => H.own x (List.mem_append_right _ hx), by have := H.nd; rw [List.map_append] at this; exact (List.nodup_append.1 this).2.1⟩
theorem sx_done (hr : Region.ready md ops listed = []) (h : Q .normal a w) : ∀ fuel, wpAnyH P md ops (NoPanic Q) S fuel listed a w := wpAnyH_done hr (NoPanic.normal h)
end
section
variable {P : Program} {ops : Array Oper} {Q : Exit → Act → World → Prop} {S : World → Prop} {a : Act} {W : World} {cores : List Core}
/-- a block made among the others -/
theorem core_new (c : Core) (op : Op) (n : Nat) (t : TypeId) (cs : Array Value) (ty : TypeId) (pos : String) (after : Array Edge)
    (ho : ops[c.i]? = some ⟨some c.d, op, ty, pos, after, none⟩) (hk : c.kind = Kind.cell n t cs) (hn : n ≤ W.heap.size)
    (hr : ∀ (ρ : Operand → Value) (w : World), (execOp ρ ⟨some c.d, op, ty, pos, after, none⟩).run P w = .ok (.value (.pointer (some ⟨w.heap.size, 0, none⟩))) (w.alloc (.cells cs t))) : StepOK P ops Q a W cores c := by
  intro vs w hl hb hp o ho' K hK
  rw [ho] at ho'
  obtain rfl := Option.some.inj ho'
  refine want_none rfl (wp_of_run_value (hr _ w) ?_)
  exact hK.out _ _ (gr_alloc (Below.refl _ _) _) (by rw [hk]; exact ⟨_, rfl, Nat.le_trans hn hb.size, At.new _ _ _⟩) (fun _ => ⟨rfl, by simp⟩)
/-- a slice of a row made among the others -/
theorem core_row (c : Core) (op : Op) (t : TypeId) (cs : Array Value) (l : Nat) (ty : TypeId) (pos : String) (after : Array Edge)
    (ho : ops[c.i]? = some ⟨some c.d, op, ty, pos, after, none⟩) (hk : c.kind = Kind.row t cs l)
    (hr : ∀ (ρ : Operand → Value) (w : World), (∀ (x : Operand) (v : Value), Known a cores c.pre x v → ρ x = v) → (execOp ρ ⟨some c.d, op, ty, pos, after, none⟩).run P w = .ok (.value (.slice (some ⟨w.heap.size, 0, none⟩) l l)) (w.alloc (.cells cs t))) : StepOK P ops Q a W cores c := by
  intro vs w hl hb hp o ho' K hK
  rw [ho] at ho'
  obtain rfl := Option.some.inj ho'
  refine want_none rfl (wp_of_run_value (hr _ w fun x v hx => hx vs w hl hp) ?_)
  exact hK.out _ _ (gr_alloc (Below.refl _ _) _) (by rw [hk]; exact ⟨_, rfl, At.new _ _ _⟩) (fun h => by rw [hk] at h; cases h)
/-- a slice of a row of one's own made among the others -/
theorem core_own (c : Core) (op : Op) (n : Nat) (t : TypeId) (cs : Array Value) (l : Nat) (ty : TypeId) (pos : String) (after : Array Edge)
    (ho : ops[c.i]? = some ⟨some c.d, op, ty, pos, after, none⟩) (hk : c.kind = Kind.own n t cs l) (hn : n ≤ W.heap.size)
    (hr : ∀ (ρ : Operand → Value) (w : World), (∀ (x : Operand) (v : Value), Known a cores c.pre x v → ρ x = v) → (execOp ρ ⟨some c.d, op, ty, pos, after, none⟩).run P w = .ok (.value (.slice (some ⟨w.heap.size, 0, none⟩) l l)) (w.alloc (.cells cs t))) : StepOK P ops Q a W cores c := by
  intro vs w hl hb hp o ho' K hK
  rw [ho] at ho'
  obtain rfl := Option.some.inj ho'
  refine want_none rfl (wp_of_run_value (hr _ w fun x v hx => hx vs w hl hp) ?_)
  exact hK.out _ _ (gr_alloc (Below.refl _ _) _) (by rw [hk]; exact ⟨_, rfl, Nat.le_trans hn hb.size, At.new _ _ _⟩) (fun h => by rw [hk] at h; cases h)
/-- a call whose contract hangs on what has come up -/
theorem coreX_call (c : Core) (f : FuncId) (fn : Func) (code : Code) (xs : List Operand) (tys : Array TypeId) (ty : TypeId) (pos : String) (after : Array Edge) (u : Value)
    (ho : ops[c.i]? = some ⟨some c.d, .call ⟨.value (.func f), xs.toArray, tys⟩, ty, pos, after, none⟩) (hf : P.funcs[f]? = some fn) (hn : (fn.name == "runtime.NumGoroutine") = false) (hb : fn.body = some code)
    (hk : c.kind = Kind.val u)
    (C : ∀ (vs : List Value) (w : World), Fit a cores vs → Below W.heap.size W w → (∀ j ∈ c.pre, ∀ d : Core, cores[j]? = some d → ∃ v, vs[j]? = some v ∧ d.kind.p v w) →
      ∃ us : List Value, xs.map (over a (cores.map (·.d)) vs).eval = us ∧ Calls P f us.toArray w fun e w' => e = .returned u ∧ Below w.heap.size w w') : StepOK P ops Q a W cores c := by
  intro vs w hl hbw hp o ho' K hK
  rw [ho] at ho'
  obtain rfl := Option.some.inj ho'
  refine want_none rfl ?_
  obtain ⟨us, hargs, hC⟩ := C vs w hl hbw hp
  have hargs2 : xs.toArray.map (over a (cores.map (·.d)) vs).eval = us.toArray := by rw [List.map_toArray, hargs]
  have hrun : ∀ w, (execOp (over a (cores.map (·.d)) vs).eval ⟨some c.d, .call ⟨.value (.func f), xs.toArray, tys⟩, ty, pos, after, none⟩).run P w = .ok (.enter f us.toArray) w := fun w => by
    have h := run_enter hf hn hb us.toArray w
    simp only [execOp, resolve, hargs2]
    simpa [Act.eval, Deferred.ofValue, invoke, go_sem] using h
  unfold Oper.wp
  rw [hrun w, Oper.upon_enter]
  refine hC.mono fun e w' ⟨he, hb⟩ => ?_
  subst he
  exact hK.out u w' hb (by rw [hk]; exact rfl) (fun h => by rw [hk] at h; cases h)
/-- a call that answers a slice of which two numbers are told -/
theorem core_callTwo (c : Core) (f : FuncId) (fn : Func) (code : Code) (xs : List Operand) (tys : Array TypeId) (ty : TypeId) (pos : String) (after : Array Edge) (n : Nat) (q : Nat → Nat → World → Prop) (st : ∀ g c w w', q g c w → Below w.heap.size w w' → q g c w')
    (ho : ops[c.i]? = some ⟨some c.d, .call ⟨.value (.func f), xs.toArray, tys⟩, ty, pos, after, none⟩) (hf : P.funcs[f]? = some fn) (hn : (fn.name == "runtime.NumGoroutine") = false) (hb : fn.body = some code)
    (hk : c.kind = Kind.two n q st)
    (C : ∀ (vs : List Value) (w : World), Fit a cores vs → Below W.heap.size W w → (∀ j ∈ c.pre, ∀ d : Core, cores[j]? = some d → ∃ v, vs[j]? = some v ∧ d.kind.p v w) →
      ∃ us : List Value, xs.map (over a (cores.map (·.d)) vs).eval = us ∧ Calls P f us.toArray w fun e w' => ∃ g c, e = .returned (.slice (some ⟨g, 0, none⟩) n c) ∧ Below w.heap.size w w' ∧ q g c w') : StepOK P ops Q a W cores c := by
  intro vs w hl hbw hp o ho' K hK
  rw [ho] at ho'
  obtain rfl := Option.some.inj ho'
  refine want_none rfl ?_
  obtain ⟨us, hargs, hC⟩ := C vs w hl hbw hp
  have hargs2 : xs.toArray.map (over a (cores.map (·.d)) vs).eval = us.toArray := by rw [List.map_toArray, hargs]
  have hrun : ∀ w, (execOp (over a (cores.map (·.d)) vs).eval ⟨some c.d, .call ⟨.value (.func f), xs.toArray, tys⟩, ty, pos, after, none⟩).run P w = .ok (.enter f us.toArray) w := fun w => by
    have h := run_enter hf hn hb us.toArray w
    simp only [execOp, resolve, hargs2]
    simpa [Act.eval, Deferred.ofValue, invoke, go_sem] using h
  unfold Oper.wp
  rw [hrun w, Oper.upon_enter]
  refine hC.mono fun e w' ⟨g, cc, he, hb, hq⟩ => ?_
  subst he
  exact hK.out _ w' hb (by rw [hk]; exact ⟨g, cc, rfl, hq⟩) (fun h => by rw [hk] at h; cases h)
/-- such a slice, when it has come up -/
theorem two_of {vs : List Value} {w : World} {pre : List Nat} (hl : Fit a cores vs) (hp : ∀ j ∈ pre, ∀ d : Core, cores[j]? = some d → ∃ v, vs[j]? = some v ∧ d.kind.p v w) (j t : Nat) (cc : Core) (n : Nat) (q : Nat → Nat → World → Prop) (st : ∀ g c w w', q g c w → Below w.heap.size w w' → q g c w') (hj : j ∈ pre) (hc : cores[j]? = some cc) (hk : cc.kind = Kind.two n q st) (hd : cc.d = t) :
    ∃ g c, (over a (cores.map (·.d)) vs).eval (.tmp t) = .slice (some ⟨g, 0, none⟩) n c ∧ q g c w := by
  obtain ⟨v, hv, hq⟩ := hp j hj cc hc
  rw [hk] at hq
  obtain ⟨g, c, rfl, hat⟩ : ∃ g c, v = .slice (some ⟨g, 0, none⟩) n c ∧ q g c w := hq
  subst hd
  exact ⟨g, c, over_at _ _ _ j _ _ hl.nd (by rw [List.getElem?_map, hc]; rfl) hv (hl.sz _ (List.mem_map_of_mem (List.mem_of_getElem? hc))), hat⟩
/-- what a slice that has come up holds, and where -/
theorem row_of {vs : List Value} {w : World} {c : Core} {pre : List Nat} (hl : Fit a cores vs) (hp : ∀ j ∈ pre, ∀ d : Core, cores[j]? = some d → ∃ v, vs[j]? = some v ∧ d.kind.p v w) (j t : Nat) (T : TypeId) (cs : Array Value) (l : Nat) (hj : j ∈ pre) (hc : cores[j]? = some c) (hk : c.kind = Kind.row T cs l) (hd : c.d = t) :
    ∃ g, (over a (cores.map (·.d)) vs).eval (.tmp t) = .slice (some ⟨g, 0, none⟩) l l ∧ At w g T cs := by
  obtain ⟨v, hv, hq⟩ := hp j hj c hc
  rw [hk] at hq
  obtain ⟨g, rfl, hat⟩ : ∃ g, v = .slice (some ⟨g, 0, none⟩) l l ∧ At w g T cs := hq
  subst hd
  exact ⟨g, over_at _ _ _ j _ _ hl.nd (by rw [List.getElem?_map, hc]; rfl) hv (hl.sz _ (List.mem_map_of_mem (List.mem_of_getElem? hc))), hat⟩
/-- an operation of one operand that may read memory of which S tells -/
theorem coreS (c : Core) (op : Op) (ty : TypeId) (pos : String) (after : Array Edge) (gd : Option (Nat × Bool)) (u : Value)
    (ho : ops[c.i]? = some ⟨some c.d, op, ty, pos, after, gd⟩) (hk : c.kind = Kind.val u) (hg : Wants ops a cores c.pre gd true)
    (h : ∀ (ρ : Operand → Value) (w : World), (∀ (x : Operand) (v : Value), Known a cores c.pre x v → ρ x = v) → S w → (execOp ρ ⟨some c.d, op, ty, pos, after, gd⟩).run P w = .ok (.value u) w) : PureOK P ops S a W cores c :=
  coreG_pure c _ ty pos after gd u ho hk hg fun vs w hl hp w' hS => h _ w' (fun x v hx => hx vs w hl hp) hS
end
theorem mev_nil {f : Operand → Value} : [].map f = [] := rfl
theorem mev_cons {f : Operand → Value} {x : Operand} {v : Value} {xs : List Operand} {vs : List Value} (h : f x = v) (hs : xs.map f = vs) : (x :: xs).map f = v :: vs := by rw [List.map_cons, h, hs]
theorem nl0 (gs : List Nat) (h : gs.length = 0) : gs = [] := List.length_eq_zero_iff.1 h
theorem nl1 (gs : List Nat) (h : gs.length = 1) : ∃ a, gs = [a] := by
  match gs, h with
  | [a], _ => exact ⟨a, rfl⟩
theorem nl2 (gs : List Nat) (h : gs.length = 2) : ∃ a b, gs = [a, b] := by
  match gs, h with
  | [a, b], _ => exact ⟨a, b, rfl⟩
theorem nl3 (gs : List Nat) (h : gs.length = 3) : ∃ a b c, gs = [a, b, c] := by
  match gs, h with
  | [a, b, c], _ => exact ⟨a, b, c, rfl⟩
end Go.Proofs.Ytfjploahkodekaa
