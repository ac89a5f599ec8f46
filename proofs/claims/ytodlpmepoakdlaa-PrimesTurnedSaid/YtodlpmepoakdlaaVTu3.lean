/-
  PrimesTurned: further rules.
-/
import Derived.Deep.Cut
import Derived.Deep.AppendLies
import Derived.Test.YtodlpmepoakdlaaVSmall
import Derived.Test.YtodlpmepoakdlaaVTu2
namespace Go.Proofs.Ytodlpmepoakdlaa
set_option maxRecDepth 100000
open Go.RowKit
set_option linter.unusedSimpArgs false
set_option linter.unusedVariables false
attribute [local go_sem ↓] Go.wp_at_zero Go.wp_at_succ

open Pr (Rsn)
section
variable {P : Program} {ops : Array Oper} {Q : Exit → Act → World → Prop} {a : Act} {n0 : Nat} {w w0 : World} {rest : List Oper} {o : Oper} {N : Nat} {L : List (Nat × Value)} {df : List Deferred} {M : List (Nat × TypeId × Array Value)}
/-- all operations of T, in whatever order, where S is held -/
theorem sx_drawnS {S : World → Prop} (T : List VC) (fuel : Nat) {id : Nat} (F : Fr a N L df) (H : Mem n0 w0 w M) (hS : ∀ w', Mem n0 w0 w' M → S w') (hm : P.follows .mixedOrders = true)
    (hN : (T.map (·.d)).all (fun d => Nat.ble (d + 1) N) = true) (hfuel : fuel + T.length = ops.size)
    (hok : okAll .any ops (Array.replicate ops.size false) (T.map (·.i)) (T.map (·.pre)) (T.map (·.pure)) = true) (hnd : (T.map (·.d)).Nodup)
    (hops : ∀ c ∈ T.map (VC.core w.heap.size), ∃ o, ops[c.i]? = some o ∧ o.dst = some c.d) (hsel : Region.noSelect ops = true)
    (hpure : ∀ c ∈ T.map (VC.core w.heap.size), PureOK P ops S a w (T.map (VC.core w.heap.size)) c)
    (hstep : ∀ c ∈ T.map (VC.core w.heap.size), c.pure = false → StepOK P ops (NoPanic Q) a w (T.map (VC.core w.heap.size)) c)
    (hend : ∀ gs rs a' w', gs.length = cellsOfT T → rs.length = rowsOfT T → Fr a' N (slots T gs rs ++ L) df → Mem n0 w0 w' (blocks T gs ++ M) → Below w.heap.size w w' → wpAnyH P .any ops (NoPanic Q) S fuel (mark (Array.replicate ops.size false) (T.map (·.i)) (List.replicate T.length true)) a' w') :
    (Code.region id ops true).wp P Q a w := by
  refine wp_region_noPanic ?_
  refine wp_region_held_drew (S := S) hm (hS _ H.drew) (fun _ => ?_)
  have c1 : (T.map (VC.core w.heap.size)).map (·.i) = T.map (·.i) := by simp [VC.core]
  have c2 : (T.map (VC.core w.heap.size)).map (·.d) = T.map (·.d) := by simp [VC.core]
  have c3 : (T.map (VC.core w.heap.size)).map (·.pre) = T.map (·.pre) := by simp [VC.core]
  have c4 : (T.map (VC.core w.heap.size)).map (·.pure) = T.map (·.pure) := by simp [VC.core]
  have hE := wpAnyH_cores (P := P) (md := .any) (ops := ops) (Q := NoPanic Q) (S := S) (T.map (VC.core w.heap.size)) (Array.replicate ops.size false) a w w.drew fuel (by rw [c2]; exact F.all hN) (by rw [c1, c3, c4]; exact hok) (by rw [c2]; exact hnd) hops
    (fun _ hb => hS _ (H.on hb)) (Below.refl _ _).drew hsel (fun _ _ _ _ _ h => h) hpure hstep ?_
  · rw [List.length_map, hfuel] at hE
    exact hE
  · intro vs w' hc
    rw [c1, c2, List.length_map]
    have hlay := lay_of (b := w.heap.size) (w := w') T vs (by rw [hc.lv, List.length_map]) (fun k c hk => hc.ok k (VC.core w.heap.size c) (by rw [List.getElem?_map, hk]; rfl) (by rw [List.getElem?_replicate, if_pos (by simpa using (List.getElem?_eq_some_iff.1 hk).1)]))
      (fun k j c d hk hj hcn hdn hne => hc.far k j (VC.core w.heap.size c) (VC.core w.heap.size d) (by rw [List.getElem?_map, hk]; rfl) (by rw [List.getElem?_map, hj]; rfl) hcn hdn hne (by rw [List.getElem?_replicate, if_pos (by simpa using (List.getElem?_eq_some_iff.1 hk).1)]) (by rw [List.getElem?_replicate, if_pos (by simpa using (List.getElem?_eq_some_iff.1 hj).1)]))
    obtain ⟨gs, rs, e1, e0, e2, e3, e4, e5, -⟩ := lay_open T vs hlay
    have hM := H.on hc.bel
    have hb := Nat.le_trans H.le H.bel.size
    refine hend gs rs _ w' e1 e0 (F.over hnd hN (slots T gs rs) (fun x hx => ?_) fun s v hs => ?_) ⟨hM.le, hM.bel, hM.oth, fun x hx => ?_, fun x hx => ?_, ?_⟩ hc.bel
    · obtain ⟨k, hk, rfl⟩ := List.getElem_of_mem hx
      refine ⟨k, ?_, ?_⟩
      · rw [← slots_d T gs rs, List.getElem?_map, List.getElem?_eq_getElem hk]; rfl
      · rw [e2, List.getElem?_map, List.getElem?_eq_getElem hk]; rfl
    · rcases lk_app _ _ _ _ hs with h | h
      · exact Or.inl h
      · right; rwa [slots_d] at h
    · rcases List.mem_append.1 hx with hx | hx
      · exact e3 x hx
      · exact hM.at_ x hx
    · rcases List.mem_append.1 hx with hx | hx
      · exact Nat.le_trans hb (e4 _ (blocks_in T gs x hx))
      · exact hM.own x hx
    · rw [List.map_append, List.nodup_append]
      refine ⟨blocks_nd T gs e5, hM.nd, fun x hx y hy e => ?_⟩
      obtain ⟨z, hz, rfl⟩ := List.mem_map.1 hx
      obtain ⟨z', hz', rfl⟩ := List.mem_map.1 hy
      have h1 := e4 _ (blocks_in T gs z hz)
      have h2 := H.lt z' hz'
      omega

variable {S : World → Prop} {md : Region.Mode} {fuel i : Nat} {listed : Array Bool}
/-- a store behind all, the world behind it written out -/
theorem sx_storeP {g j : Nat} {o : Oper} {vs : List Value} (hr : Region.ready md ops listed = [i]) (ho : ops[i]? = some o) (hg : o.guard = none) (hdst : o.dst = none) (hrun : (execOp a.eval o).run P w = .ok .skip (puts w g j vs)) (hS : S (puts w g j vs))
    (h : wpAnyH P md ops Q S fuel (listed.setIfInBounds i true) a (puts w g j vs)) : wpAnyH P md ops Q S (fuel + 1) listed a w := by
  refine wpAnyH_one hr ho fun K hK => want_none hg (wp_of_run_skip hrun ?_)
  rw [hdst]
  exact hK.out _ _ hS h
/-- one that gives a value, when no other one may come up -/
theorem sx_val1 {d : Nat} {o : Oper} {v : Value} (F : Fr a N L df) (hr : Region.ready md ops listed = [i]) (ho : ops[i]? = some o) (hg : o.guard = none) (hdst : o.dst = some d) (hd : Nat.blt d N = true) (hrun : (execOp a.eval o).run P w = .ok (.value v) w) (hS : S w)
    (h : ∀ a', Fr a' N ((d, v) :: L) df → wpAnyH P md ops Q S fuel (listed.setIfInBounds i true) a' w) : wpAnyH P md ops Q S (fuel + 1) listed a w := by
  refine wpAnyH_one hr ho fun K hK => want_none hg (wp_of_run_value hrun ?_)
  rw [hdst]
  exact hK.out _ _ hS (h _ (F.put v hd))
/-- a call that answers something -/
theorem lx_callE {d : Nat} {f : FuncId} {args : Array Value} {T : Value → World → Prop} (F : Fr a N L df) (hw : Region.wanted o (yielded ops a.tmps) = true) (hdst : o.dst = some d) (hd : Nat.blt d N = true)
    (hr : (execOp a.eval o).run P w = .ok (.enter f args) w) (C : Calls P f args w fun e w' => ∃ u, e = .returned u ∧ T u w')
    (h : ∀ a' w' u, T u w' → Fr a' N ((d, u) :: L) df → wpList P ops Q rest a' w') : wpList P ops Q (o :: rest) a w := by
  unfold wpList
  rw [if_pos hw]
  left
  unfold Oper.wp
  rw [hr, Oper.upon_enter]
  refine C.mono fun e w' ⟨u, he, hT⟩ => ?_
  subst he
  show wpList P ops Q rest (a.put o.dst u) w'
  rw [hdst]
  exact h _ _ _ hT (F.put u hd)
end
theorem sets9 (N1 Y1 : Nat) (s1 : Value) (N Y : Nat) (s : Value) : sets (rcs N1 Y1 s1) 0 [.int .u64 (wd N 0 : Nat), .int .u64 (wd N 1 : Nat), .int .u64 (wd N 2 : Nat), .int .u64 (wd N 3 : Nat), .int .u64 (wd Y 0 : Nat), .int .u64 (wd Y 1 : Nat), .int .u64 (wd Y 2 : Nat), .int .u64 (wd Y 3 : Nat), s] = rcs N Y s := by simp [sets]
theorem sets4 (N Y V : Nat) (s : Value) : sets (rcs N Y s) 4 [.int .u64 (wd V 0 : Nat), .int .u64 (wd V 1 : Nat), .int .u64 (wd V 2 : Nat), .int .u64 (wd V 3 : Nat)] = rcs N V s := by simp [sets]
theorem sets1 (N Y : Nat) (s u : Value) : sets (rcs N Y s) 8 [u] = rcs N Y u := by simp [sets]
theorem NR9.form {base n : Nat} {w : World} {v : Value} {xs : List Value} (h : NR9 base w v n xs) (hn : 0 < n) : ∃ g cap, v = .slice (some ⟨g, 0, none⟩) n cap := by
  obtain ⟨g, cap, e, _⟩ := World.ownsRow.form h hn
  exact ⟨g, cap, e⟩
theorem NR9.putsFar {base n g : Nat} {v : Value} {xs : List Value} (hg : g < base) : ∀ (vs : List Value) {w : World} (o : Nat), NR9 base w v n xs → NR9 base (puts w g o vs) v n xs
  | [], _, _, h => h
  | u :: vs, w, o, h => by
    refine NR9.putsFar hg vs (o + 1) ⟨h.1, ?_⟩
    rcases h.2 with h2 | ⟨g', cap, cur, hv, hb, hc, h3⟩
    · exact Or.inl h2
    · refine Or.inr ⟨g', cap, cur, hv, hb, ?_, h3⟩
      exact At.far (show At w g' 27 cur from hc) (p := ⟨g, o, none⟩) (by show g ≠ g'; omega) u
theorem Mem.lower {n0 m : Nat} {w0 w : World} {M : List (Nat × TypeId × Array Value)} (H : Mem n0 w0 w M) (h : m ≤ n0) : Mem m w w M :=
  ⟨Nat.le_trans h (Nat.le_trans H.le H.bel.size), Below.refl _ _, KeepsOthers.refl _, H.at_, fun x hx => Nat.le_trans h (H.own x hx), H.nd⟩
theorem At.low {n g : Nat} {w w' : World} {t : TypeId} {cs : Array Value} (h : At w g t cs) (hg : g < n) (hb : Below n w w') : At w' g t cs := (hb.block g hg).trans h
theorem TE.on {w w' : World} {g off : Nat} {p : Rsn} (h : TE w g off p) (hg : g < w.heap.size) (hb : Below w.heap.size w w') : TE w' g off p :=
  h.keep (fun q v _ hq => cell_on hb hq) (fun t ht => hb.cell (p := ⟨g, off + t, none⟩) hg)
/-- what the row of twins is behind the first store -/
def ST (w : World) (g k : Nat) (ps : List Rsn) (ns : List Value) : Prop := (∃ cur, At w g 27 cur ∧ cur.size = (ps.length + 1) * 9 ∧ ∀ t, t < 9 → cur[9 * k + t]? = ns[t]?) ∧ ∀ j (hj : j < ps.length), j ≠ k → TE w g (9 * j) ps[j]
theorem ST.on {w w' : World} {g k : Nat} {ps : List Rsn} {ns : List Value} (h : ST w g k ps ns) (hb : Below w.heap.size w w') : ST w' g k ps ns := by
  obtain ⟨⟨cur, h1, h2, h3⟩, h4⟩ := h
  exact ⟨⟨cur, h1.on hb, h2, h3⟩, fun j hj hne => (h4 j hj hne).on h1.lt hb⟩
theorem n9 (q y : Nat) (s : Value) : (nine q y s).length = 9 := rfl
theorem sets_size : ∀ (vs : List Value) (cs : Array Value) (o : Nat), (sets cs o vs).size = cs.size
  | [], _, _ => rfl
  | v :: vs, cs, o => by show (sets (cs.setIfInBounds o v) (o + 1) vs).size = _; rw [sets_size vs]; simp
theorem turn_1 {wT : World} {g2 k q y : Nat} {s : Value} {ps : List Rsn} (hkl : k < ps.length) (hT : TwR wT g2 ps) : ST (puts wT g2 (0 + k * 9) (nine q y s)) g2 k ps (nine q y s) := by
  obtain ⟨⟨cur, hcur, hsz⟩, hte⟩ := hT.te
  have a1 := puts_at (nine q y s) (o := 0 + k * 9) hcur
  refine ⟨⟨_, a1, by rw [sets_size]; exact hsz, fun t ht => ?_⟩, fun j hj hne => (hte j hj).keep (fun q v hq h => ?_) fun t ht => ?_⟩
  · rw [sets_get, n9, if_pos ⟨by omega, by omega, by omega⟩, show 9 * k + t - (0 + k * 9) = t by omega]
  · rw [puts_far _ _ _ _ _ (by omega)]; exact h
  · rw [a1.cell, sets_get, n9, if_neg (by omega), hcur.cell]
set_option maxRecDepth 100000 in
set_option maxHeartbeats 8000000 in
theorem turn_2 {w wT : World} {g off g2 k : Nat} {ps : List Rsn} {q y q' y' : Nat} {s s' : Value} (hk : 0 < k) (hkl : k < ps.length) (hlen : ps.length ≤ 1000) (hL : LensL ps)
    (hall : ∀ i (hi : i < ps.length), RsAt w ps[i] g (off + 9 * i)) (hn1 : ∀ t, t < 9 → w.cell? ⟨g, off + 9 * (k - 1) + t, none⟩ = (nine q y s)[t]?) (hn2 : ∀ t, t < 9 → w.cell? ⟨g, off + 9 * k + t, none⟩ = (nine q' y' s')[t]?)
    (hT : ST wT g2 k ps (nine q y s)) (hb2 : Below w.heap.size w (puts wT g2 (0 + (k - 1) * 9) (nine q' y' s'))) :
    Sl (puts wT g2 (0 + (k - 1) * 9) (nine q' y' s')) (some ⟨g2, 0, none⟩) (ps.length + 1) (turnL ps k (ps[k - 1]'(by omega)) ps[k]) := by
  obtain ⟨⟨cur, hcur, hsz, hck⟩, hte⟩ := hT
  have hl : (turnL ps k (ps[k - 1]'(by omega)) ps[k]).length = ps.length := by simp [turnL]
  have a2 := puts_at (nine q' y' s') (o := 0 + (k - 1) * 9) hcur
  refine ⟨by rw [hl]; omega, by omega, (fun e => by cases e), Or.inr ⟨g2, 0, rfl, RsLs.of fun j hj => ?_⟩⟩
  rw [hl] at hj
  rw [show 0 + 9 * j = 9 * j from Nat.zero_add _]
  by_cases h1 : j = k - 1
  · have e : (turnL ps k (ps[k - 1]'(by omega)) ps[k])[j] = ps[k] := by subst h1; simp [turnL]
    rw [e]
    refine (hall k hkl).copy hb2 fun t ht v hv => ?_
    rw [hn2 t ht] at hv
    rw [a2.cell, sets_get, n9, if_pos ⟨by omega, by omega, by omega⟩, show 9 * j + t - (0 + (k - 1) * 9) = t by omega]
    exact hv
  by_cases h2 : j = k
  · have e : (turnL ps k (ps[k - 1]'(by omega)) ps[k])[j] = ps[k - 1]'(by omega) := by
      subst h2; simp only [turnL]; rw [List.getElem_set_ne (by omega), List.getElem_set_self]
    rw [e]
    refine (hall (k - 1) (by omega)).copy hb2 fun t ht v hv => ?_
    rw [hn1 t ht] at hv
    rw [a2.cell, sets_get, n9, if_neg (by omega), h2, hck t ht]
    exact hv
  · have e : (turnL ps k (ps[k - 1]'(by omega)) ps[k])[j] = ps[j] := by simp only [turnL]; rw [List.getElem_set_ne (by omega), List.getElem_set_ne (by omega)]
    rw [e]
    refine ((hte j hj h2).keep (fun q v hq h => ?_) (fun t ht => ?_)).rs (LensL.mem hL (List.getElem_mem hj))
    · rw [puts_far _ _ _ _ _ (by omega)]; exact h
    · rw [a2.cell, sets_get, n9, if_neg (by omega), hcur.cell]
/-- the nine cells of a part -/
theorem RsAt.nine9 {w : World} {r : Rsn} {g off i : Nat} (h : RsAt w r g (off + 9 * i)) : ∃ q y a l c, (∀ u, Below w.heap.size w u → C9 u g (off + i * 9) q y (.slice a l c)) ∧ ∀ t, t < 9 → w.cell? ⟨g, off + 9 * i + t, none⟩ = (nine q y (.slice a l c))[t]? := by
  obtain ⟨⟨h1, h1'⟩, ⟨h2, h2'⟩, a, cap, hcell, hs⟩ := rsAt_iff.mp h
  have c9 : C9 w g (off + 9 * i) r.n r.w (.slice a r.ps.length cap) := ⟨h1' 0 (by omega), h1' 1 (by omega), h1' 2 (by omega), h1' 3 (by omega), h2' 0 (by omega), h2' 1 (by omega), h2' 2 (by omega), h2' 3 (by omega), hcell⟩
  refine ⟨r.n, r.w, a, r.ps.length, cap, fun u hb => by rw [Nat.mul_comm i 9]; exact c9.on hb, fun t ht => ?_⟩
  obtain ⟨e0, e1, e2, e3, e4, e5, e6, e7, e8⟩ := c9
  match t, ht with
  | 0, _ => exact e0
  | 1, _ => exact e1
  | 2, _ => exact e2
  | 3, _ => exact e3
  | 4, _ => exact e4
  | 5, _ => exact e5
  | 6, _ => exact e6
  | 7, _ => exact e7
  | 8, _ => exact e8
/-- a store into a row of twins can be made -/
theorem row_some {w : World} {g n o : Nat} (h : ∃ cur, At w g 27 cur ∧ cur.size = n) (ho : o < n) : ∃ u, w.cell? ⟨g, o, none⟩ = some u := by
  obtain ⟨cur, h1, h2⟩ := h
  exact ⟨cur[o]'(by omega), by rw [h1.cell o]; exact Array.getElem?_eq_getElem (by omega)⟩
theorem row_frozen {w : World} {g n : Nat} (h : ∃ cur, At w g 27 cur ∧ cur.size = n) : ∀ k, w.frozen? ⟨g, k, none⟩ = false := by
  obtain ⟨cur, h1, _⟩ := h
  exact fun k => h1.frozen k
end Go.Proofs.Ytodlpmepoakdlaa
