/-
  A region that draws its order, gone through in one step: frames and blocks as lists.
-/
import Derived.Test.YtodlpmepoakdlaaVGCore
import Derived.Test.YtodlpmepoakdlaaVSxN
namespace Go.Proofs.Ytodlpmepoakdlaa
set_option maxRecDepth 100000
open Go.RowKit
set_option linter.unusedSimpArgs false
set_option linter.unusedVariables false

/-- what an operation leaves: a value, or a block of its own -/
inductive VK
  | val (u : Value)
  | cell (t : TypeId) (cs : Array Value)
  | row (t : TypeId) (cs : Array Value) (l : Nat)
structure VC where
  i : Nat
  d : Nat
  pre : List Nat
  k : VK
  pure : Bool
/-- a slice of a row of its own -/
def Kind.row (t : TypeId) (cs : Array Value) (l : Nat) : Kind := ⟨false, fun v w => ∃ g, v = .slice (some ⟨g, 0, none⟩) l l ∧ At w g t cs, fun _ _ _ ⟨g, h1, h2⟩ hb => ⟨g, h1, h2.on hb⟩⟩
def VK.kind (b : Nat) : VK → Kind
  | .row t cs l => Kind.row t cs l
  | .val u => Kind.val u
  | .cell t cs => Kind.cell b t cs
def VC.core (b : Nat) (c : VC) : Core := ⟨c.i, c.d, c.pre, c.k.kind b, c.pure⟩
def cellsOfT : List VC → Nat
  | [] => 0
  | ⟨_, _, _, .val _, _⟩ :: T => cellsOfT T
  | ⟨_, _, _, .row _ _ _, _⟩ :: T => cellsOfT T
  | ⟨_, _, _, .cell _ _, _⟩ :: T => cellsOfT T + 1
def rowsOfT : List VC → Nat
  | [] => 0
  | ⟨_, _, _, .val _, _⟩ :: T => rowsOfT T
  | ⟨_, _, _, .cell _ _, _⟩ :: T => rowsOfT T
  | ⟨_, _, _, .row _ _ _, _⟩ :: T => rowsOfT T + 1
def slots : List VC → List Nat → List Nat → List (Nat × Value)
  | [], _, _ => []
  | ⟨_, d, _, .val u, _⟩ :: T, gs, rs => (d, u) :: slots T gs rs
  | ⟨_, d, _, .cell _ _, _⟩ :: T, g :: gs, rs => (d, .pointer (some ⟨g, 0, none⟩)) :: slots T gs rs
  | ⟨_, d, _, .cell _ _, _⟩ :: T, [], rs => (d, undef) :: slots T [] rs
  | ⟨_, d, _, .row _ _ l, _⟩ :: T, gs, r :: rs => (d, .slice (some ⟨r, 0, none⟩) l l) :: slots T gs rs
  | ⟨_, d, _, .row _ _ _, _⟩ :: T, gs, [] => (d, undef) :: slots T gs []
def blocks : List VC → List Nat → List (Nat × TypeId × Array Value)
  | [], _ => []
  | ⟨_, _, _, .val _, _⟩ :: T, gs => blocks T gs
  | ⟨_, _, _, .row _ _ _, _⟩ :: T, gs => blocks T gs
  | ⟨_, _, _, .cell t cs, _⟩ :: T, g :: gs => (g, t, cs) :: blocks T gs
  | ⟨_, _, _, .cell _ _, _⟩ :: T, [] => blocks T []
theorem slots_d : ∀ (T : List VC) (gs rs : List Nat), (slots T gs rs).map (·.1) = T.map (·.d)
  | [], _, _ => rfl
  | ⟨_, _, _, .val _, _⟩ :: T, gs, rs => by simp [slots, slots_d T gs rs]
  | ⟨_, _, _, .cell _ _, _⟩ :: T, g :: gs, rs => by simp [slots, slots_d T gs rs]
  | ⟨_, _, _, .cell _ _, _⟩ :: T, [], rs => by simp [slots, slots_d T [] rs]
  | ⟨_, _, _, .row _ _ _, _⟩ :: T, gs, r :: rs => by simp [slots, slots_d T gs rs]
  | ⟨_, _, _, .row _ _ _, _⟩ :: T, gs, [] => by simp [slots, slots_d T gs []]
theorem blocks_in : ∀ (T : List VC) (gs : List Nat) (x), x ∈ blocks T gs → x.1 ∈ gs
  | [], _, _, h => by simp [blocks] at h
  | ⟨_, _, _, .val _, _⟩ :: T, gs, x, h => blocks_in T gs x (by simpa [blocks] using h)
  | ⟨_, _, _, .row _ _ _, _⟩ :: T, gs, x, h => blocks_in T gs x (by simpa [blocks] using h)
  | ⟨_, _, _, .cell _ _, _⟩ :: T, g :: gs, x, h => by
    rcases List.mem_cons.1 (show x ∈ (g, _, _) :: blocks T gs from h) with rfl | h
    · exact List.mem_cons_self
    · exact List.mem_cons_of_mem _ (blocks_in T gs x h)
  | ⟨_, _, _, .cell _ _, _⟩ :: T, [], x, h => blocks_in T [] x (by simpa [blocks] using h)

def LayT (b : Nat) (w : World) : List VC → List Value → Prop
  | [], [] => True
  | c :: T, v :: vs => (c.k.kind b).p v w ∧ ((c.k.kind b).new = true → ∀ (j : Nat) (d : VC), T[j]? = some d → (d.k.kind b).new = true → vs[j]? ≠ some v) ∧ LayT b w T vs
  | _, _ => False
theorem lay_of {b : Nat} {w : World} : ∀ (T : List VC) (vs : List Value), vs.length = T.length → (∀ (k : Nat) (c : VC), T[k]? = some c → ∃ v, vs[k]? = some v ∧ (c.k.kind b).p v w) →
    (∀ (k j : Nat) (c d : VC), T[k]? = some c → T[j]? = some d → (c.k.kind b).new = true → (d.k.kind b).new = true → k ≠ j → vs[k]? ≠ vs[j]?) → LayT b w T vs
  | [], [], _, _, _ => trivial
  | c :: T, v :: vs, hl, h1, h2 => by
    refine ⟨?_, fun hn j d hd hdn he => ?_, lay_of T vs (by simpa using hl) (fun k c hc => ?_) fun k j c d hc hd hcn hdn hne => ?_⟩
    · obtain ⟨u, hu, hp⟩ := h1 0 c rfl
      simp at hu; subst hu; exact hp
    · exact h2 0 (j + 1) c d rfl (by simpa using hd) hn hdn (by omega) (by simp [he])
    · obtain ⟨u, hu, hp⟩ := h1 (k + 1) c (by simpa using hc)
      exact ⟨u, by simpa using hu, hp⟩
    · have := h2 (k + 1) (j + 1) c d (by simpa using hc) (by simpa using hd) hcn hdn (by omega)
      simpa using this
  | [], _ :: _, hl, _, _ => by simp at hl
  | _ :: _, [], hl, _, _ => by simp at hl
theorem lay_open {b : Nat} {w : World} : ∀ (T : List VC) (vs : List Value), LayT b w T vs → ∃ gs rs : List Nat, gs.length = cellsOfT T ∧ rs.length = rowsOfT T ∧ vs = (slots T gs rs).map (·.2) ∧ (∀ x ∈ blocks T gs, At w x.1 x.2.1 x.2.2) ∧ (∀ g ∈ gs, b ≤ g) ∧
    gs.Nodup ∧ (∀ g ∈ gs, ∃ (j : Nat) (d : VC), T[j]? = some d ∧ (d.k.kind b).new = true ∧ vs[j]? = some (.pointer (some ⟨g, 0, none⟩)))
  | [], [], _ => ⟨[], [], rfl, rfl, rfl, fun _ h => (by cases h), fun _ h => (by cases h), List.nodup_nil, fun _ h => (by cases h)⟩
  | ⟨i, d, pre, .val u, p⟩ :: T, v :: vs, ⟨h1, _, h3⟩ => by
    obtain ⟨gs, rs, e1, e0, e2, e3, e4, e5, e6⟩ := lay_open T vs h3
    have hv : v = u := h1
    subst hv
    refine ⟨gs, rs, e1, e0, by simp [slots, ← e2], e3, e4, e5, fun g hg => ?_⟩
    obtain ⟨j, d', hd, hn, hv⟩ := e6 g hg
    exact ⟨j + 1, d', by simpa using hd, hn, by simpa using hv⟩
  | ⟨i, d, pre, .row t cs l, p⟩ :: T, v :: vs, ⟨h1, _, h3⟩ => by
    obtain ⟨gs, rs, e1, e0, e2, e3, e4, e5, e6⟩ := lay_open T vs h3
    obtain ⟨r, rfl, hat⟩ : ∃ g, v = .slice (some ⟨g, 0, none⟩) l l ∧ At w g t cs := h1
    refine ⟨gs, r :: rs, e1, by simp [rowsOfT, e0], by simp [slots, ← e2], e3, e4, e5, fun g hg => ?_⟩
    obtain ⟨j, d', hd, hn, hv⟩ := e6 g hg
    exact ⟨j + 1, d', by simpa using hd, hn, by simpa using hv⟩
  | ⟨i, d, pre, .cell t cs, p⟩ :: T, v :: vs, ⟨h1, h2, h3⟩ => by
    obtain ⟨gs, rs, e1, e0, e2, e3, e4, e5, e6⟩ := lay_open T vs h3
    obtain ⟨g, rfl, hb, hat⟩ : ∃ g, v = .pointer (some ⟨g, 0, none⟩) ∧ b ≤ g ∧ At w g t cs := h1
    refine ⟨g :: gs, rs, by simp [cellsOfT, e1], e0, by simp [slots, ← e2], fun x hx => ?_, fun x hx => ?_, ?_, fun x hx => ?_⟩
    · rcases List.mem_cons.1 (show x ∈ (g, t, cs) :: blocks T gs from hx) with rfl | hx
      · exact hat
      · exact e3 x hx
    · rcases List.mem_cons.1 hx with rfl | hx
      · exact hb
      · exact e4 x hx
    · refine List.nodup_cons.2 ⟨fun hg => ?_, e5⟩
      obtain ⟨j, d', hd, hn, hv⟩ := e6 g hg
      exact h2 rfl j d' hd hn hv
    · rcases List.mem_cons.1 hx with rfl | hx
      · exact ⟨0, _, rfl, rfl, rfl⟩
      · obtain ⟨j, d', hd, hn, hv⟩ := e6 x hx
        exact ⟨j + 1, d', by simpa using hd, hn, by simpa using hv⟩
  | [], _ :: _, h => h.elim
  | _ :: _, [], h => h.elim
theorem blocks_nd : ∀ (T : List VC) (gs : List Nat), gs.Nodup → ((blocks T gs).map (·.1)).Nodup
  | [], _, _ => by simp [blocks]
  | ⟨_, _, _, .val _, _⟩ :: T, gs, h => by simpa [blocks] using blocks_nd T gs h
  | ⟨_, _, _, .row _ _ _, _⟩ :: T, gs, h => by simpa [blocks] using blocks_nd T gs h
  | ⟨_, _, _, .cell _ _, _⟩ :: T, g :: gs, h => by
    obtain ⟨h1, h2⟩ := List.nodup_cons.1 h
    show (g :: (blocks T gs).map (·.1)).Nodup
    refine List.nodup_cons.2 ⟨fun hg => h1 ?_, blocks_nd T gs h2⟩
    obtain ⟨x, hx, rfl⟩ := List.mem_map.1 hg
    exact blocks_in T gs x hx
  | ⟨_, _, _, .cell _ _, _⟩ :: T, [], h => by simpa [blocks] using blocks_nd T [] h

section
variable {P : Program} {ops : Array Oper} {Q : Exit → Act → World → Prop} {a : Act} {n0 : Nat} {w w0 : World} {N : Nat} {L : List (Nat × Value)} {df : List Deferred} {M : List (Nat × TypeId × Array Value)}
theorem lk_app : ∀ (R L : List (Nat × Value)) (s : Nat) (v : Value), lk (R ++ L) s = some v → lk R s = some v ∨ s ∉ R.map (·.1)
  | [], _, _, _, _ => Or.inr (by simp)
  | (d, u) :: R, L, s, v, h => by
    by_cases e : d = s
    · subst e; simp [lk] at h; left; simp [lk, h]
    · have e' : Nat.beq d s = false := Bool.eq_false_iff.2 fun h => e (Nat.eq_of_beq_eq_true h)
      simp only [List.cons_append, lk, e', cond_false] at h
      rcases lk_app R L s v h with h | h
      · left; simp [lk, e', h]
      · right
        simp only [List.map_cons, List.mem_cons, not_or]
        exact ⟨fun h' => e h'.symm, h⟩
variable {S : World → Prop} {md : Region.Mode} {fuel i : Nat} {listed : Array Bool}
theorem sx_done (hr : Region.ready md ops listed = []) (h : Q .normal a w) : ∀ fuel, wpAnyH P md ops (NoPanic Q) S fuel listed a w := wpAnyH_done hr (NoPanic.normal h)
end
section
variable {P : Program} {ops : Array Oper} {Q : Exit → Act → World → Prop} {S : World → Prop} {a : Act} {W : World} {cores : List Core}
/-- an operation of one operand that may read memory of which S tells -/
theorem coreS (c : Core) (op : Op) (ty : TypeId) (pos : String) (after : Array Edge) (gd : Option (Nat × Bool)) (u : Value)
    (ho : ops[c.i]? = some ⟨some c.d, op, ty, pos, after, gd⟩) (hk : c.kind = Kind.val u) (hg : Wants ops a cores c.pre gd true)
    (h : ∀ (ρ : Operand → Value) (w : World), (∀ (x : Operand) (v : Value), Known a cores c.pre x v → ρ x = v) → S w → (execOp ρ ⟨some c.d, op, ty, pos, after, gd⟩).run P w = .ok (.value u) w) : PureOK P ops S a W cores c :=
  coreG_pure c _ ty pos after gd u ho hk hg fun vs w hl hp w' hS => h _ w' (fun x v hx => hx vs w hl hp) hS
end
theorem nl0 (gs : List Nat) (h : gs.length = 0) : gs = [] := List.length_eq_zero_iff.1 h
end Go.Proofs.Ytodlpmepoakdlaa
