/-
  A region that draws its order, gone through operation by operation, where a step may set marks in rows that the region made.
-/
import Derived.Test.YtkmjfaaelkmnkaaDoorMTwr
namespace Go.Proofs.YtkmjfaaelkmnkaaDoor.Sf
open Go.RowKit
set_option linter.unusedSimpArgs false
set_option linter.unusedVariables false
set_option maxRecDepth 100000

/-- rows stay, but for their marks -/
structure Soft (w w' : World) : Prop where
  size : w.heap.size ≤ w'.heap.size
  cells : ∀ (k : Nat) (cs : Array Value) (t : TypeId) (fr : Nat × Nat), w.heap[k]? = some (.cells cs t fr) → ∃ fr', w'.heap[k]? = some (.cells cs t fr')
def Step (W w w' : World) : Prop := Below W.heap.size W w' ∧ Soft w w'
theorem Soft.refl (w : World) : Soft w w := ⟨Nat.le_refl _, fun k cs t fr h => ⟨fr, h⟩⟩
theorem Soft.of {w w' : World} (h : Below w.heap.size w w') : Soft w w' := ⟨h.size, fun k cs t fr hk => ⟨fr, (h.block k (by
  have := (Array.getElem?_eq_some_iff.1 hk).1; exact this)).trans hk⟩⟩
theorem Step.of {W w w' : World} (hb : Below W.heap.size W w) (h : Below w.heap.size w w') : Step W w w' := ⟨hb.trans (h.mono hb.size), Soft.of h⟩

/-- what an operation leaves: of a value and a world, and it stays so while the world grows -/
structure Kind where
  new : Bool
  p : Value → World → Prop
  st : ∀ v w w', p v w → Soft w w' → p v w'
/-- just this value -/
def Kind.val (u : Value) : Kind := ⟨false, fun v _ => v = u, fun _ _ _ h _ => h⟩
/-- an operation of a region: its number, its temporary, which ones must have come up ahead of it, what it leaves -/
structure Core where
  i : Nat
  d : Nat
  pre : List Nat
  kind : Kind
  pure : Bool

section
variable {P : Program} {ops : Array Oper} {Q : Exit → Act → World → Prop} {md : Region.Mode} {S : World → Prop}

/-- as many values as temporaries, each of which lies in the frame, none twice -/
structure Fit (a : Act) (cores : List Core) (vs : List Value) : Prop where
  len : vs.length = cores.length
  nd : (cores.map (·.d)).Nodup
  sz : ∀ d ∈ cores.map (·.d), d < a.tmps.size

/-- one operation, in whatever state it may come up -/
def StepOK (P : Program) (ops : Array Oper) (Q : Exit → Act → World → Prop) (a : Act) (W : World) (cores : List Core) (c : Core) : Prop :=
  ∀ (vs : List Value) (w : World), Fit a cores vs → Below W.heap.size W w → (∀ j ∈ c.pre, ∀ d : Core, cores[j]? = some d → ∃ v, vs[j]? = some v ∧ d.kind.p v w) →
    ∀ o, ops[c.i]? = some o → ∀ K : Act → World → Prop,
      Shut (∀ v w', Step W w w' → c.kind.p v w' → (c.kind.new = true → v = .pointer (some ⟨w.heap.size, 0, none⟩) ∧ w.heap.size < w'.heap.size) → K ((over a (cores.map (·.d)) vs).put (some c.d) v) w') →
      if Region.wanted o (yielded ops (over a (cores.map (·.d)) vs).tmps) = true then Oper.wp P o (over a (cores.map (·.d)) vs) w K Q else K ((over a (cores.map (·.d)) vs).put o.dst undef) w

/-- one operation that looks at no memory but what S tells -/
def PureOK (P : Program) (ops : Array Oper) (S : World → Prop) (a : Act) (W : World) (cores : List Core) (c : Core) : Prop :=
  c.pure = true → c.kind.new = false ∧ ∀ (vs : List Value) (w : World), Fit a cores vs → Below W.heap.size W w → (∀ j ∈ c.pre, ∀ d : Core, cores[j]? = some d → ∃ v, vs[j]? = some v ∧ d.kind.p v w) →
    ∀ o, ops[c.i]? = some o → ∃ v, c.kind.p v w ∧ YieldsIf P ops S o v (over a (cores.map (·.d)) vs)

/-- all that came up so far -/
structure Came (cores : List Core) (W : World) (bs : List Bool) (vs : List Value) (w : World) : Prop where
  lb : bs.length = cores.length
  lv : vs.length = cores.length
  bel : Below W.heap.size W w
  ok : ∀ (k : Nat) (c : Core), cores[k]? = some c → bs[k]? = some true → ∃ v, vs[k]? = some v ∧ c.kind.p v w
  lt : ∀ (k : Nat) (c : Core), cores[k]? = some c → bs[k]? = some true → c.kind.new = true → ∃ g, vs[k]? = some (.pointer (some ⟨g, 0, none⟩)) ∧ g < w.heap.size
  far : ∀ (k j : Nat) (c d : Core), cores[k]? = some c → cores[j]? = some d → c.kind.new = true → d.kind.new = true → k ≠ j → bs[k]? = some true → bs[j]? = some true → vs[k]? ≠ vs[j]?

theorem Came.step {cores : List Core} {W : World} {bs : List Bool} {vs : List Value} {w w' : World} (h : Came cores W bs vs w) {k : Nat} {c : Core} (hc : cores[k]? = some c) {v : Value}
    (hb : Step W w w') (hp : c.kind.p v w') (hn : c.kind.new = true → v = .pointer (some ⟨w.heap.size, 0, none⟩) ∧ w.heap.size < w'.heap.size) : Came cores W (bs.set k true) (vs.set k v) w' := by
  have hk : k < cores.length := (List.getElem?_eq_some_iff.1 hc).1
  have hkv : k < vs.length := by rw [h.lv]; exact hk
  have at_k : (vs.set k v)[k]? = some v := by rw [List.getElem?_set_self hkv]
  refine ⟨by rw [List.length_set, h.lb], by rw [List.length_set, h.lv], hb.1, fun j d hd hj => ?_, fun j d hd hj hnew => ?_, fun i j e d he hd hne hnd hij hi hj => ?_⟩
  · by_cases e : j = k
    · subst e; rw [hc] at hd; cases hd; exact ⟨v, at_k, hp⟩
    · obtain ⟨u, hu, hpu⟩ := h.ok j d hd ((set_true bs k j hj).resolve_left e)
      exact ⟨u, by rw [List.getElem?_set_ne (fun h => e h.symm)]; exact hu, d.kind.st _ _ _ hpu hb.2⟩
  · by_cases e : j = k
    · subst e; rw [hc] at hd; cases hd; exact ⟨_, by rw [at_k, (hn hnew).1], (hn hnew).2⟩
    · obtain ⟨g, hg, hl⟩ := h.lt j d hd ((set_true bs k j hj).resolve_left e) hnew
      exact ⟨g, by rw [List.getElem?_set_ne (fun h => e h.symm)]; exact hg, Nat.lt_of_lt_of_le hl hb.2.size⟩
  · have hi' := set_true bs k i hi
    have hj' := set_true bs k j hj
    by_cases e1 : i = k
    · subst e1
      have e2 : j ≠ i := fun h => hij h.symm
      obtain ⟨g, hg, hl⟩ := h.lt j d hd (hj'.resolve_left e2) hnd
      rw [hc] at he; cases he
      rw [at_k, List.getElem?_set_ne (fun h => e2 h.symm), hg, (hn hne).1]
      intro h; injection h with h; injection h with h; injection h with h; injection h with h; omega
    · by_cases e2 : j = k
      · subst e2
        obtain ⟨g, hg, hl⟩ := h.lt i e he (hi'.resolve_left e1) hne
        rw [hc] at hd; cases hd
        rw [at_k, List.getElem?_set_ne (fun h => e1 h.symm), hg, (hn hnd).1]
        intro h; injection h with h; injection h with h; injection h with h; injection h with h; omega
      · rw [List.getElem?_set_ne (fun h => e1 h.symm), List.getElem?_set_ne (fun h => e2 h.symm)]
        exact h.far i j e d he hd hne hnd hij (hi'.resolve_left e1) (hj'.resolve_left e2)

theorem wpAnyH_set (cores : List Core) (l0 : Array Bool) (a : Act) (W : World) (fuel : Nat)
    (hsz : (cores.map (·.d)).all (fun d => Nat.ble (d + 1) a.tmps.size) = true) (hok : okAll md ops l0 (cores.map (·.i)) (cores.map (·.pre)) (cores.map (·.pure)) = true) (hnd : (cores.map (·.d)).Nodup)
    (hops : ∀ c ∈ cores, ∃ o, ops[c.i]? = some o ∧ o.dst = some c.d) (hS : ∀ w, Below W.heap.size W w → S w)
    (hsel : Region.noSelect ops = true) (hQ : ∀ c a w d v, Q (.panic c) (a.put d v) w → Q (.panic c) a w)
    (hpure : ∀ c ∈ cores, PureOK P ops S a W cores c) (hstep : ∀ c ∈ cores, c.pure = false → StepOK P ops Q a W cores c)
    (hend : ∀ vs w, Came cores W (List.replicate cores.length true) vs w → wpAnyH P md ops Q S fuel (mark l0 (cores.map (·.i)) (List.replicate cores.length true)) (over a (cores.map (·.d)) vs) w) :
    ∀ (n : Nat) (bs : List Bool) (vs : List Value) (w : World), left bs = n → Shuts (cores.map (·.pre)) bs → Came cores W bs vs w → wpAnyH P md ops Q S (fuel + n) (mark l0 (cores.map (·.i)) bs) (over a (cores.map (·.d)) vs) w := by
  have hfit : ∀ vs : List Value, vs.length = cores.length → Fit a cores vs := fun vs h => ⟨h, hnd, fun d hd => Nat.le_of_ble_eq_true (List.all_eq_true.1 hsz d hd)⟩
  intro n
  induction n with
  | zero =>
    intro bs vs w hl hsh hc
    have h1 := List.all_eq_true.1 hok bs (mem_shuts _ _ (by rw [hc.lb, List.length_map]) hsh)
    have hall : bs.all (fun b => b) = true := by
      rw [List.all_eq_true]
      intro b hb
      cases b
      · obtain ⟨k, hk, he⟩ := List.getElem_of_mem hb
        have := left_set bs k (by rw [List.getElem?_eq_getElem hk, he]); omega
      · rfl
    have h2 := (left_none bs hall).2
    rw [hc.lb] at h2
    subst h2
    exact hend vs w hc
  | succ n ih =>
    intro bs vs w hl hsh hc
    have h1 := List.all_eq_true.1 hok bs (mem_shuts _ _ (by rw [hc.lb, List.length_map]) hsh)
    unfold okAt at h1
    rcases Bool.or_eq_true_iff.1 h1 with h1 | h1
    rcases Bool.or_eq_true_iff.1 h1 with h1 | h1
    · have := (left_none bs h1).1; omega
    · obtain ⟨k, hk, h4⟩ := List.any_eq_true.1 h1
      simp only [Bool.and_eq_true, beq_iff_eq] at h4
      obtain ⟨⟨⟨⟨h5, h6⟩, h7⟩, h8⟩, h9⟩ := h4
      rw [List.getElem?_map] at h5
      obtain ⟨c, hck, hcp⟩ := Option.map_eq_some_iff.1 h5
      have hmem : c ∈ cores := List.mem_of_getElem? hck
      obtain ⟨o, ho, hod⟩ := hops c hmem
      have hkb : k < bs.length := (List.getElem?_eq_some_iff.1 h6).1
      have hdk : (cores.map (·.d))[k]? = some c.d := by rw [List.getElem?_map, hck]; rfl
      have hik : (cores.map (·.i)).getD k 0 = c.i := by simp [List.getD, hck]
      rw [hik] at h8 h9
      obtain ⟨hnew, hp⟩ := hpure c hmem hcp
      obtain ⟨v, hv, hy⟩ := hp vs w (hfit vs hc.lv) hc.bel (fun j hj d hd => hc.ok j d hd (by
        have e8 : c.pre = (cores.map (·.pre)).getD k [] := by simp [List.getD, hck]
        have h9 := List.all_eq_true.1 h7 j (by rw [← e8]; exact hj)
        simp only [Bool.and_eq_true, decide_eq_true_eq, beq_iff_eq] at h9
        exact h9.2)) o ho
      refine wpAnyH_take ho hsel h9 h8 (fun c a w h => hQ c a w _ _ h) hy (hS _ hc.bel) ?_
      rw [hod, over_set _ _ _ k _ _ hnd hdk (by rw [hc.lv]; exact (List.getElem?_eq_some_iff.1 hck).1), mark_set _ _ _ k _ (by rw [List.getElem?_map, hck]; rfl) hkb]
      exact ih _ _ _ (by have := left_set bs k h6; omega) (hsh.step (fun j hj => by have h9 := List.all_eq_true.1 h7 j hj; simp only [Bool.and_eq_true, decide_eq_true_eq, beq_iff_eq] at h9; exact h9)) (hc.step hck ⟨hc.bel, Soft.refl _⟩ hv (fun h => by rw [hnew] at h; cases h))
    rw [Bool.and_eq_true] at h1
    obtain ⟨h1, h2⟩ := h1
    refine wpAnyH_all rfl (fun h => by rw [h] at h1; cases h1) ?_
    intro i hi
    have h3 := List.all_eq_true.1 h2 i hi
    obtain ⟨k, hk, h4⟩ := List.any_eq_true.1 h3
    simp only [Bool.and_eq_true, beq_iff_eq] at h4
    obtain ⟨⟨h5, h6⟩, h7⟩ := h4
    rw [List.getElem?_map] at h5
    obtain ⟨c, hck, hci⟩ := Option.map_eq_some_iff.1 h5
    have hmem : c ∈ cores := List.mem_of_getElem? hck
    obtain ⟨o, ho, hod⟩ := hops c hmem
    have hkb : k < bs.length := (List.getElem?_eq_some_iff.1 h6).1
    have hdk : (cores.map (·.d))[k]? = some c.d := by rw [List.getElem?_map, hck]; rfl
    rw [← hci]
    cases hcp : c.pure with
    | true =>
      obtain ⟨hnew, hp⟩ := hpure c hmem hcp
      obtain ⟨v, hv, hy⟩ := hp vs w (hfit vs hc.lv) hc.bel (fun j hj d hd => hc.ok j d hd (by
        have e8 : c.pre = (cores.map (·.pre)).getD k [] := by simp [List.getD, hck]
        have h9 := List.all_eq_true.1 h7 j (by rw [← e8]; exact hj)
        simp only [Bool.and_eq_true, decide_eq_true_eq, beq_iff_eq] at h9
        exact h9.2)) o ho
      refine hy.wpOp ho (hS _ hc.bel) ⟨hS _ hc.bel, ?_⟩
      rw [hod, over_set _ _ _ k _ _ hnd hdk (by rw [hc.lv]; exact (List.getElem?_eq_some_iff.1 hck).1), mark_set _ _ _ k _ (by rw [List.getElem?_map, hck]; rfl) hkb]
      exact ih _ _ _ (by have := left_set bs k h6; omega) (hsh.step (fun j hj => by have h9 := List.all_eq_true.1 h7 j hj; simp only [Bool.and_eq_true, decide_eq_true_eq, beq_iff_eq] at h9; exact h9)) (hc.step hck ⟨hc.bel, Soft.refl _⟩ hv (fun h => by rw [hnew] at h; cases h))
    | false =>
    refine wpOp_step ho fun K' hK => hstep c hmem hcp vs w (hfit vs hc.lv) hc.bel ?_ o ho K' ?_
    · intro j hj d hd
      have h8 : c.pre = (cores.map (·.pre)).getD k [] := by simp [List.getD, hck]
      have h9 := List.all_eq_true.1 h7 j (by rw [← h8]; exact hj)
      simp only [Bool.and_eq_true, decide_eq_true_eq, beq_iff_eq] at h9
      exact hc.ok j d hd h9.2
    · intro v w' hb hp hn
      refine hK _ _ ⟨hS _ (hb.1), ?_⟩
      rw [over_set _ _ _ k _ _ hnd hdk (by rw [hc.lv]; exact (List.getElem?_eq_some_iff.1 hck).1), mark_set _ _ _ k _ (by rw [List.getElem?_map, hck]; rfl) hkb]
      exact ih _ _ _ (by have := left_set bs k h6; omega) (hsh.step (fun j hj => by have h9 := List.all_eq_true.1 h7 j hj; simp only [Bool.and_eq_true, decide_eq_true_eq, beq_iff_eq] at h9; exact h9)) (hc.step hck hb hp hn)

/-- all operations of 'cores', in whatever order -/
theorem wpAnyH_cores (cores : List Core) (l0 : Array Bool) (a : Act) (W w0 : World) (fuel : Nat)
    (hsz : (cores.map (·.d)).all (fun d => Nat.ble (d + 1) a.tmps.size) = true) (hok : okAll md ops l0 (cores.map (·.i)) (cores.map (·.pre)) (cores.map (·.pure)) = true) (hnd : (cores.map (·.d)).Nodup)
    (hops : ∀ c ∈ cores, ∃ o, ops[c.i]? = some o ∧ o.dst = some c.d) (hS : ∀ w, Below W.heap.size W w → S w) (h0 : Below W.heap.size W w0)
    (hsel : Region.noSelect ops = true) (hQ : ∀ c a w d v, Q (.panic c) (a.put d v) w → Q (.panic c) a w)
    (hpure : ∀ c ∈ cores, PureOK P ops S a W cores c) (hstep : ∀ c ∈ cores, c.pure = false → StepOK P ops Q a W cores c)
    (hend : ∀ vs w, Came cores W (List.replicate cores.length true) vs w → wpAnyH P md ops Q S fuel (mark l0 (cores.map (·.i)) (List.replicate cores.length true)) (over a (cores.map (·.d)) vs) w) :
    wpAnyH P md ops Q S (fuel + cores.length) l0 a w0 := by
  have e1 : ∀ (is : List Nat) (n : Nat) (l : Array Bool), mark l is (List.replicate n false) = l := by
    intro is
    induction is with
    | nil => intro n l; cases n <;> simp [mark]
    | cons i is ih => intro n l; cases n with
      | zero => simp [mark]
      | succ n => simp [List.replicate_succ, mark, ih]
  have e2 : ∀ (ds : List Nat), over a ds (ds.map fun d => a.tmps.getD d undef) = a := by
    intro ds
    induction ds with
    | nil => simp [over]
    | cons d ds ih => rw [List.map_cons, over, put_self]; exact ih
  have hover := e2 (cores.map (·.d))
  have h := wpAnyH_set cores l0 a W fuel hsz hok hnd hops hS hsel hQ hpure hstep hend cores.length (List.replicate cores.length false) ((cores.map (·.d)).map fun d => a.tmps.getD d undef) w0 (by simp [left, List.countP_replicate])
    (fun k h => by simp [List.getElem?_replicate] at h) ⟨by simp, by simp, h0, fun k c _ h => by simp [List.getElem?_replicate] at h, fun k c _ h => by simp [List.getElem?_replicate] at h, fun k j c d _ _ _ _ _ h => by simp [List.getElem?_replicate] at h⟩
  rw [hover, e1] at h
  exact h
end
theorem all_nil {F : Core → Prop} : ∀ c ∈ ([] : List Core), F c := fun _ h => by cases h
theorem all_cons {F : Core → Prop} {c : Core} {cs : List Core} (h : F c) (hs : ∀ c ∈ cs, F c) : ∀ c' ∈ c :: cs, F c' := fun c' h' => by
  rcases List.mem_cons.1 h' with rfl | h'
  · exact h
  · exact hs _ h'
section
variable {P : Program} {ops : Array Oper} {Q : Exit → Act → World → Prop} {md : Region.Mode} {S : World → Prop} {a : Act} {W : World} {cores : List Core}
/-- what an operand holds, as soon as 'pre' have come up -/
def Known (a : Act) (cores : List Core) (pre : List Nat) (x : Operand) (u : Value) : Prop :=
  ∀ (vs : List Value) (w : World), Fit a cores vs → (∀ j ∈ pre, ∀ d : Core, cores[j]? = some d → ∃ v, vs[j]? = some v ∧ d.kind.p v w) → (over a (cores.map (·.d)) vs).eval x = u
theorem known_const {pre : List Nat} (v : Value) : Known a cores pre (.const v) v := fun _ _ _ _ => rfl
theorem known_core {pre : List Nat} (j t : Nat) (c : Core) (u : Value) (hj : j ∈ pre) (hc : cores[j]? = some c) (hk : c.kind = Kind.val u) (hd : c.d = t) :
    Known a cores pre (.tmp t) u := fun vs w hl hp => by
  obtain ⟨v, hv, hp⟩ := hp j hj c hc
  rw [hk] at hp
  have hp : v = u := hp
  subst hp
  subst hd
  exact over_at _ _ _ j _ _ hl.nd (by rw [List.getElem?_map, hc]; rfl) hv (hl.sz _ (List.mem_map_of_mem (List.mem_of_getElem? hc)))
theorem known_old {pre : List Nat} (t : Nat) (u : Value) (ht : t ∉ cores.map (·.d)) (hu : a.tmps.getD t undef = u) : Known a cores pre (.tmp t) u := fun vs w _ _ => by
  show (over a _ vs).tmps.getD t undef = u
  rw [over_out _ _ _ _ ht, hu]

inductive Args (a : Act) (cores : List Core) (pre : List Nat) : List Operand → List Value → Prop
  | nil : Args a cores pre [] []
  | cons {x : Operand} {u : Value} {xs : List Operand} {us : List Value} : Known a cores pre x u → Args a cores pre xs us → Args a cores pre (x :: xs) (u :: us)

theorem core_pureAs (c : Core) (h : c.pure = false) : PureOK P ops S a W cores c := fun h' => by rw [h] at h'; cases h'
theorem core_stepAs (c : Core) (h : c.pure = true) : c.pure = false → StepOK P ops Q a W cores c := fun h' => by rw [h] at h'; cases h'
/-- is the guard met, as soon as 'pre' have come up? -/
def Wants (ops : Array Oper) (a : Act) (cores : List Core) (pre : List Nat) (gd : Option (Nat × Bool)) (b : Bool) : Prop :=
  ∀ (vs : List Value) (w : World), Fit a cores vs → (∀ j ∈ pre, ∀ d : Core, cores[j]? = some d → ∃ v, vs[j]? = some v ∧ d.kind.p v w) →
    ∀ o : Oper, o.guard = gd → Region.wanted o (yielded ops (over a (cores.map (·.d)) vs).tmps) = b
theorem wants_none {pre : List Nat} : Wants ops a cores pre none true := fun _ _ _ _ o h => by unfold Region.wanted; rw [h]
theorem wants_core {pre : List Nat} (g t j : Nat) (cc : Core) (c b : Bool) (hc : cores[j]? = some cc) (hcd : cc.d = t) (hd : (ops[g]?).bind (·.dst) = some t) (hk : Known a cores pre (.tmp t) (.bool c)) (r : Bool) (hr : r = (c == b)) : Wants ops a cores pre (some (g, b)) r := fun vs w hl hp o h => by
  subst hr
  have e : (over a (cores.map (·.d)) vs).tmps.getD t undef = .bool c := hk vs w hl hp
  have e2 : (over a (cores.map (·.d)) vs).tmps[t]? = some (.bool c) := by
    have hs' : t < (over a (cores.map (·.d)) vs).tmps.size := by rw [over_size, ← hcd]; exact hl.sz _ (List.mem_map_of_mem (List.mem_of_getElem? hc))
    rw [Array.getD_eq_getD_getElem?, Array.getElem?_eq_getElem hs'] at e
    rw [Array.getElem?_eq_getElem hs']
    exact congrArg some e
  unfold Region.wanted yielded
  rw [h]
  simp only [hd, Option.bind_some, e2]
  cases c <;> cases b <;> rfl
theorem wants_undef {pre : List Nat} (g t j : Nat) (cc : Core) (b : Bool) (hc : cores[j]? = some cc) (hcd : cc.d = t) (hd : (ops[g]?).bind (·.dst) = some t) (hk : Known a cores pre (.tmp t) undef) : Wants ops a cores pre (some (g, b)) false := fun vs w hl hp o h => by
  have e : (over a (cores.map (·.d)) vs).tmps.getD t undef = undef := hk vs w hl hp
  have e2 : (over a (cores.map (·.d)) vs).tmps[t]? = some undef := by
    have hs' : t < (over a (cores.map (·.d)) vs).tmps.size := by rw [over_size, ← hcd]; exact hl.sz _ (List.mem_map_of_mem (List.mem_of_getElem? hc))
    rw [Array.getD_eq_getD_getElem?, Array.getElem?_eq_getElem hs'] at e
    rw [Array.getElem?_eq_getElem hs']
    exact congrArg some e
  unfold Region.wanted yielded
  rw [h]
  simp only [hd, Option.bind_some, e2]
  cases b <;> rfl

theorem want_if {o : Oper} {t : Array Value} {p q : Prop} (hw : Region.wanted o (yielded ops t) = true) (h : p) : if Region.wanted o (yielded ops t) = true then p else q := by
  rw [if_pos hw]; exact h

theorem coreG_callB (c : Core) (f : FuncId) (fn : Func) (code : Code) (xs : List Operand) (us : List Value) (tys : Array TypeId) (ty : TypeId) (pos : String) (after : Array Edge) (gd : Option (Nat × Bool)) (u : Value)
    (ho : ops[c.i]? = some ⟨some c.d, .call ⟨.value (.func f), xs.toArray, tys⟩, ty, pos, after, gd⟩) (hf : P.funcs[f]? = some fn) (hn : (fn.name == "runtime.NumGoroutine") = false) (hb : fn.body = some code)
    (hk : c.kind = Kind.val u) (hg : Wants ops a cores c.pre gd true) (hx : Args a cores c.pre xs us)
    (C : ∀ w, Below W.heap.size W w → Calls P f us.toArray w fun e w' => e = .returned u ∧ Below w.heap.size w w') : StepOK P ops Q a W cores c := by
  intro vs w hl hbw hp o ho' K hK
  rw [ho] at ho'
  obtain rfl := Option.some.inj ho'
  refine want_if (hg vs w hl hp _ rfl) ?_
  have hargs : xs.toArray.map (over a (cores.map (·.d)) vs).eval = us.toArray := by
    rw [List.map_toArray]
    congr 1
    clear ho C ho'
    induction hx with
    | nil => rfl
    | cons h _ ih => rw [List.map_cons, h vs w hl hp, ih]
  have hrun : ∀ w, (execOp (over a (cores.map (·.d)) vs).eval ⟨some c.d, .call ⟨.value (.func f), xs.toArray, tys⟩, ty, pos, after, gd⟩).run P w = .ok (.enter f us.toArray) w := fun w => by
    have h := run_enter hf hn hb us.toArray w
    simp only [execOp, resolve, hargs]
    simpa [Act.eval, Deferred.ofValue, invoke, go_sem] using h
  unfold Oper.wp
  rw [hrun w, Oper.upon_enter]
  refine (C w hbw).mono fun e w' ⟨he, hb⟩ => ?_
  subst he
  exact hK.out u w' (Step.of hbw hb) (by rw [hk]; exact rfl) (fun h => by rw [hk] at h; cases h)

theorem coreG_pure (c : Core) (op : Op) (ty : TypeId) (pos : String) (after : Array Edge) (gd : Option (Nat × Bool)) (u : Value)
    (ho : ops[c.i]? = some ⟨some c.d, op, ty, pos, after, gd⟩) (hk : c.kind = Kind.val u) (hg : Wants ops a cores c.pre gd true)
    (h : ∀ (vs : List Value) (w : World), Fit a cores vs → (∀ j ∈ c.pre, ∀ d : Core, cores[j]? = some d → ∃ v, vs[j]? = some v ∧ d.kind.p v w) →
      ∀ w, S w → (execOp (over a (cores.map (·.d)) vs).eval ⟨some c.d, op, ty, pos, after, gd⟩).run P w = .ok (.value u) w) : PureOK P ops S a W cores c := by
  intro _
  refine ⟨by rw [hk]; rfl, fun vs w hl _ hp o ho' => ?_⟩
  rw [ho] at ho'
  obtain rfl := Option.some.inj ho'
  exact ⟨u, by rw [hk]; exact rfl, Or.inl ⟨hg vs w hl hp _ rfl, fun w' hS => h vs w hl hp w' hS⟩⟩
theorem coreG_skip (c : Core) (op : Op) (ty : TypeId) (pos : String) (after : Array Edge) (gd : Option (Nat × Bool))
    (ho : ops[c.i]? = some ⟨some c.d, op, ty, pos, after, gd⟩) (hk : c.kind = Kind.val undef) (hg : Wants ops a cores c.pre gd false) : PureOK P ops S a W cores c := by
  intro _
  refine ⟨by rw [hk]; rfl, fun vs w hl _ hp o ho' => ?_⟩
  rw [ho] at ho'
  obtain rfl := Option.some.inj ho'
  exact ⟨undef, by rw [hk]; exact rfl, Or.inr ⟨hg vs w hl hp _ rfl, rfl⟩⟩
theorem coreG_move (c : Core) (x : Operand) (ty : TypeId) (pos : String) (after : Array Edge) (gd : Option (Nat × Bool)) (u : Value)
    (ho : ops[c.i]? = some ⟨some c.d, .move x, ty, pos, after, gd⟩) (hk : c.kind = Kind.val u) (hg : Wants ops a cores c.pre gd true) (hx : Known a cores c.pre x u) : PureOK P ops S a W cores c :=
  coreG_pure c _ ty pos after gd u ho hk hg fun vs w hl hp w' _ => by
    have := hx vs w hl hp
    simp only [execOp, this]; rfl
theorem coreG_extract (c : Core) (x : Operand) (j : Nat) (ty : TypeId) (pos : String) (after : Array Edge) (gd : Option (Nat × Bool)) (us : Array Value) (u : Value)
    (ho : ops[c.i]? = some ⟨some c.d, .extract x j, ty, pos, after, gd⟩) (hk : c.kind = Kind.val u) (hg : Wants ops a cores c.pre gd true) (hx : Known a cores c.pre x (.tuple us)) (hu : us[j]? = some u) : PureOK P ops S a W cores c :=
  coreG_pure c _ ty pos after gd u ho hk hg fun vs w hl hp w' _ => by
    have := hx vs w hl hp
    generalize (over a (cores.map (·.d)) vs).eval = ρ at this
    simp [execOp, this, go_sem, hu]
theorem coreG_pick (c : Core) (x y z : Operand) (ty : TypeId) (pos : String) (after : Array Edge) (gd : Option (Nat × Bool)) (b : Bool) (u v r : Value)
    (ho : ops[c.i]? = some ⟨some c.d, .pick x y z, ty, pos, after, gd⟩) (hk : c.kind = Kind.val r) (hg : Wants ops a cores c.pre gd true) (hx : Known a cores c.pre x (.bool b)) (hy : Known a cores c.pre y u) (hz : Known a cores c.pre z v)
    (hr : r = if b then u else v) : PureOK P ops S a W cores c :=
  coreG_pure c _ ty pos after gd r ho hk hg fun vs w hl hp w' _ => by
    have e1 := hx vs w hl hp
    have e2 := hy vs w hl hp
    have e3 := hz vs w hl hp
    generalize (over a (cores.map (·.d)) vs).eval = ρ at e1 e2 e3
    subst hr
    cases b <;> simp [execOp, e1, e2, e3, go_sem]
theorem coreG_bin (c : Core) (b : BinOp) (T T2 : TypeId) (x y : Operand) (ty : TypeId) (pos : String) (after : Array Edge) (gd : Option (Nat × Bool)) (u v r : Value)
    (ho : ops[c.i]? = some ⟨some c.d, .binOp b T x y T2, ty, pos, after, gd⟩) (hk : c.kind = Kind.val r) (hg : Wants ops a cores c.pre gd true) (hx : Known a cores c.pre x u) (hy : Known a cores c.pre y v)
    (hr : ∀ (ρ : Operand → Value) (w : World), ρ x = u → ρ y = v → (execOp ρ ⟨some c.d, .binOp b T x y T2, ty, pos, after, gd⟩).run P w = .ok (.value r) w) : PureOK P ops S a W cores c :=
  coreG_pure c _ ty pos after gd r ho hk hg fun vs w hl hp w' _ => hr _ w' (hx vs w hl hp) (hy vs w hl hp)
theorem coreG_un (c : Core) (b : UnOp) (T : TypeId) (x : Operand) (ty : TypeId) (pos : String) (after : Array Edge) (gd : Option (Nat × Bool)) (u r : Value)
    (ho : ops[c.i]? = some ⟨some c.d, .unOp b T x, ty, pos, after, gd⟩) (hk : c.kind = Kind.val r) (hg : Wants ops a cores c.pre gd true) (hx : Known a cores c.pre x u)
    (hr : ∀ (ρ : Operand → Value) (w : World), ρ x = u → (execOp ρ ⟨some c.d, .unOp b T x, ty, pos, after, gd⟩).run P w = .ok (.value r) w) : PureOK P ops S a W cores c :=
  coreG_pure c _ ty pos after gd r ho hk hg fun vs w hl hp w' _ => hr _ w' (hx vs w hl hp)
theorem coreG_conv (c : Core) (s d : TypeId) (x : Operand) (ty : TypeId) (pos : String) (after : Array Edge) (gd : Option (Nat × Bool)) (u r : Value)
    (ho : ops[c.i]? = some ⟨some c.d, .convert s d x, ty, pos, after, gd⟩) (hk : c.kind = Kind.val r) (hg : Wants ops a cores c.pre gd true) (hx : Known a cores c.pre x u)
    (hr : ∀ (ρ : Operand → Value) (w : World), ρ x = u → (execOp ρ ⟨some c.d, .convert s d x, ty, pos, after, gd⟩).run P w = .ok (.value r) w) : PureOK P ops S a W cores c :=
  coreG_pure c _ ty pos after gd r ho hk hg fun vs w hl hp w' _ => hr _ w' (hx vs w hl hp)
/-- an operation that reads memory of which S tells -/
theorem coreG_held (c : Core) (op : Op) (ty : TypeId) (pos : String) (after : Array Edge) (gd : Option (Nat × Bool)) (u : Value) (x : Operand) (xv : Value)
    (ho : ops[c.i]? = some ⟨some c.d, op, ty, pos, after, gd⟩) (hk : c.kind = Kind.val u) (hg : Wants ops a cores c.pre gd true) (hx : Known a cores c.pre x xv)
    (h : ∀ (ρ : Operand → Value) (w : World), ρ x = xv → S w → (execOp ρ ⟨some c.d, op, ty, pos, after, gd⟩).run P w = .ok (.value u) w) : PureOK P ops S a W cores c :=
  coreG_pure c op ty pos after gd u ho hk hg fun vs w hl hp w' hS => h _ w' (hx vs w hl hp) hS
theorem coreG_held2 (c : Core) (op : Op) (ty : TypeId) (pos : String) (after : Array Edge) (gd : Option (Nat × Bool)) (u : Value) (x y : Operand) (xv yv : Value)
    (ho : ops[c.i]? = some ⟨some c.d, op, ty, pos, after, gd⟩) (hk : c.kind = Kind.val u) (hg : Wants ops a cores c.pre gd true) (hx : Known a cores c.pre x xv) (hy : Known a cores c.pre y yv)
    (h : ∀ (ρ : Operand → Value) (w : World), ρ x = xv → ρ y = yv → S w → (execOp ρ ⟨some c.d, op, ty, pos, after, gd⟩).run P w = .ok (.value u) w) : PureOK P ops S a W cores c :=
  coreG_pure c op ty pos after gd u ho hk hg fun vs w hl hp w' hS => h _ w' (hx vs w hl hp) (hy vs w hl hp) hS
/-- what has come up ahead -/
def Pre (cores : List Core) (pre : List Nat) (vs : List Value) (w : World) : Prop := ∀ j ∈ pre, ∀ d : Core, cores[j]? = some d → ∃ v, vs[j]? = some v ∧ d.kind.p v w
theorem is_core {pre : List Nat} {vs : List Value} {w : World} (hl : Fit a cores vs) (hp : Pre cores pre vs w) (j t : Nat) (cc : Core) (hj : j ∈ pre) (hc : cores[j]? = some cc) (hd : cc.d = t) :
    ∃ v, (over a (cores.map (·.d)) vs).eval (.tmp t) = v ∧ cc.kind.p v w := by
  obtain ⟨v, hv, hpv⟩ := hp j hj cc hc
  refine ⟨v, ?_, hpv⟩
  subst hd
  exact over_at _ _ _ j _ _ hl.nd (by rw [List.getElem?_map, hc]; rfl) hv (hl.sz _ (List.mem_map_of_mem (List.mem_of_getElem? hc)))
/-- an operation that leaves something new -/
theorem coreK_run (c : Core) (op : Op) (ty : TypeId) (pos : String) (after : Array Edge) (gd : Option (Nat × Bool))
    (ho : ops[c.i]? = some ⟨some c.d, op, ty, pos, after, gd⟩) (hg : Wants ops a cores c.pre gd true) (hnew : c.kind.new = false)
    (h : ∀ (vs : List Value) (w : World), Fit a cores vs → Below W.heap.size W w → Pre cores c.pre vs w → ∃ v w', (execOp (over a (cores.map (·.d)) vs).eval ⟨some c.d, op, ty, pos, after, gd⟩).run P w = .ok (.value v) w' ∧ Step W w w' ∧ c.kind.p v w') : StepOK P ops Q a W cores c := by
  intro vs w hl hbw hp o ho' K hK
  rw [ho] at ho'
  obtain rfl := Option.some.inj ho'
  obtain ⟨v, w', hr, hb, hk⟩ := h vs w hl hbw hp
  refine want_if (hg vs w hl hp _ rfl) (wp_of_run_value hr ?_)
  exact hK.out v w' hb hk (fun h => by rw [hnew] at h; cases h)
/-- a call whose arguments came up -/
theorem coreK_call (c : Core) (f : FuncId) (fn : Func) (code : Code) (xs : List Operand) (tys : Array TypeId) (ty : TypeId) (pos : String) (after : Array Edge) (gd : Option (Nat × Bool))
    (ho : ops[c.i]? = some ⟨some c.d, .call ⟨.value (.func f), xs.toArray, tys⟩, ty, pos, after, gd⟩) (hf : P.funcs[f]? = some fn) (hn : (fn.name == "runtime.NumGoroutine") = false) (hb : fn.body = some code)
    (hg : Wants ops a cores c.pre gd true) (hnew : c.kind.new = false)
    (C : ∀ (vs : List Value) (w : World), Fit a cores vs → Below W.heap.size W w → Pre cores c.pre vs w → ∃ us : List Value, xs.map (over a (cores.map (·.d)) vs).eval = us ∧ Calls P f us.toArray w fun e w' => ∃ u, e = .returned u ∧ Below w.heap.size w w' ∧ c.kind.p u w') : StepOK P ops Q a W cores c := by
  intro vs w hl hbw hp o ho' K hK
  rw [ho] at ho'
  obtain rfl := Option.some.inj ho'
  obtain ⟨us, hus, hC⟩ := C vs w hl hbw hp
  refine want_if (hg vs w hl hp _ rfl) ?_
  have hargs : xs.toArray.map (over a (cores.map (·.d)) vs).eval = us.toArray := by rw [List.map_toArray, hus]
  have hrun : (execOp (over a (cores.map (·.d)) vs).eval ⟨some c.d, .call ⟨.value (.func f), xs.toArray, tys⟩, ty, pos, after, gd⟩).run P w = .ok (.enter f us.toArray) w := by
    have h := run_enter hf hn hb us.toArray w
    simp only [execOp, resolve, hargs]
    simpa [Act.eval, Deferred.ofValue, invoke, go_sem] using h
  unfold Oper.wp
  rw [hrun, Oper.upon_enter]
  refine hC.mono fun e w' ⟨u, he, hb, hk⟩ => ?_
  subst he
  exact hK.out u w' (Step.of hbw hb) hk (fun h => by rw [hnew] at h; cases h)
/-- the value that came up -/
theorem Came.at_ {cores : List Core} {W : World} {vs : List Value} {w : World} {a : Act} (h : Came cores W (List.replicate cores.length true) vs w) (hnd : (cores.map (·.d)).Nodup) (hsz : (cores.map (·.d)).all (fun d => Nat.ble (d + 1) a.tmps.size) = true)
    (k d : Nat) (c : Core) (u : Value) (hc : cores[k]? = some c) (hd : c.d = d) (hk : c.kind = Kind.val u) : (over a (cores.map (·.d)) vs).eval (.tmp d) = u := by
  have hlt : k < cores.length := (List.getElem?_eq_some_iff.1 hc).1
  obtain ⟨v, hv, hp⟩ := h.ok k c hc (by rw [List.getElem?_replicate, if_pos hlt])
  rw [hk] at hp
  have hp : v = u := hp
  subst hp
  subst hd
  exact over_at _ _ _ k _ _ hnd (by rw [List.getElem?_map, hc]; rfl) hv (Nat.le_of_ble_eq_true (List.all_eq_true.1 hsz _ (List.mem_map_of_mem (List.mem_of_getElem? hc))))

end
end Go.Proofs.YtkmjfaaelkmnkaaDoor.Sf
