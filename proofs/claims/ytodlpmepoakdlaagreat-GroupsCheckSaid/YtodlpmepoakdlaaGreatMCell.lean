import Derived.Laws.BitsAllLaws
import Derived.Test.YtodlpmepoakdlaaGreatMBehind
import Derived.Test.YtodlpmepoakdlaaGreatMCoreH
import Derived.Test.YtodlpmepoakdlaaGreatMMulW
import Derived.Test.YtodlpmepoakdlaaGreatMSet
namespace Go.Proofs.YtodlpmepoakdlaaGreat
set_option maxRecDepth 100000
open Go.RowKit
set_option linter.unusedSimpArgs false
set_option linter.unusedVariables false

section
variable {P : Program} {ops : Array Oper} {Q : Exit → Act → World → Prop} {md : Region.Mode} {S : World → Prop} {a : Act} {W : World} {cores : List Core}

def Jay (ops : Array Oper) (a : Act) (cores : List Core) (pre : List Nat) (gd : Option (Nat × Bool)) (b : Bool) : Prop :=
 ∀ (vs : List Value) (w : World), Fit a cores vs → (∀ j ∈ pre, ∀ d : Core, cores[j]? = some d → ∃ v, vs[j]? = some v ∧ d.kind.p v w) →
  ∀ o : Oper, o.guard = gd → Region.wanted o (yielded ops (over a (cores.map (·.d)) vs).tmps) = b
theorem Jc {pre : List Nat} : Jay ops a cores pre none true := fun _ _ _ _ o h => by unfold Region.wanted; rw [h]
theorem wants_core {pre : List Nat} (g t j : Nat) (cc : Core) (c b : Bool) (hc : cores[j]? = some cc) (hcd : cc.d = t) (hd : (ops[g]?).bind (·.dst) = some t) (hk : Ve a cores pre (.tmp t) (.bool c)) (r : Bool) (hr : r = (c == b)) : Jay ops a cores pre (some (g, b)) r := fun vs w hl hp o h => by
 subst hr
 have e : (over a (cores.map (·.d)) vs).tmps.getD t undef = .bool c := hk vs w hl hp
 have e2 : (over a (cores.map (·.d)) vs).tmps[t]? = some (.bool c) := by
  have hs' : t < (over a (cores.map (·.d)) vs).tmps.size := by rw [Ua, ← hcd]; exact hl.sz _ (List.mem_map_of_mem (List.mem_of_getElem? hc))
  rw [Array.getD_eq_getD_getElem?, Array.getElem?_eq_getElem hs'] at e
  rw [Array.getElem?_eq_getElem hs']
  exact congrArg some e
 unfold Region.wanted yielded
 rw [h]
 simp only [hd, Option.bind_some, e2]
 cases c <;> cases b <;> rfl
theorem wc {pre : List Nat} (g t j : Nat) {cc : Core} {c b : Bool} (hk : Ve a cores pre (.tmp t) (.bool c)) (hc : cores[j]? = some cc := by rfl) (hcd : cc.d = t := by rfl) (hd : (ops[g]?).bind (·.dst) = some t := by rfl) {r : Bool} (hr : r = (c == b) := by rfl) : Jay ops a cores pre (some (g, b)) r := wants_core g t j cc c b hc hcd hd hk r hr
theorem want_if {o : Oper} {t : Array Value} {p q : Prop} (hw : Region.wanted o (yielded ops t) = true) (h : p) : if Region.wanted o (yielded ops t) = true then p else q := by
 rw [if_pos hw]; exact h

theorem Jh (c : Core) (f : FuncId) (fn : Func) (code : Code) (xs : List Operand) (us : List Value) (tys : Array TypeId) (ty : TypeId) (pos : String) (after : Array Edge) (gd : Option (Nat × Bool)) (u : Value)
  (ho : ops[c.i]? = some ⟨some c.d, .call ⟨.value (.func f), xs.toArray, tys⟩, ty, pos, after, gd⟩) (hf : P.funcs[f]? = some fn) (hn : (fn.name == "runtime.NumGoroutine") = false) (hb : fn.body = some code)
  (hk : c.kind = Kind.val u) (hg : Jay ops a cores c.pre gd true) (hx : Args a cores c.pre xs us)
  (C : ∀ w, Calls P f us.toArray w fun e w' => e = .returned u ∧ Below w.heap.size w w') : Vm P ops Q a W cores c := by
 intro vs w hl _ hp o ho' K hK
 rw [ho] at ho'
 obtain rfl := Option.some.inj ho'
 refine want_if (hg vs w hl hp _ rfl) ?_
 have hargs : xs.toArray.map (over a (cores.map (·.d)) vs).eval = us.toArray := by
  rw [List.map_toArray]
  congr 1
  clear ho C ho'
  induction hx with
  | nil => rfl
  | cons h _ ih => rw [List.map_cons, h vs w hl hp, ih]
 have hrun : ∀ w, (execOp (over a (cores.map (·.d)) vs).eval ⟨some c.d, .call ⟨.value (.func f), xs.toArray, tys⟩, ty, pos, after, gd⟩).run P w = .ok (.enter f us.toArray) w := fun w => by
  have h := Vx hf hn hb us.toArray w
  simp only [execOp, resolve, hargs]
  simpa [Act.eval, Deferred.ofValue, invoke, go_sem] using h
 unfold Oper.wp
 rw [hrun w, Oper.upon_enter]
 refine (C w).mono fun e w' ⟨he, hb⟩ => ?_
 subst he
 exact hK.out u w' hb (by rw [hk]; exact rfl) (fun h => by rw [hk] at h; cases h)

theorem Ux (c : Core) (op : Op) (ty : TypeId) (pos : String) (after : Array Edge) (gd : Option (Nat × Bool)) (u : Value)
  (ho : ops[c.i]? = some ⟨some c.d, op, ty, pos, after, gd⟩) (hk : c.kind = Kind.val u) (hg : Jay ops a cores c.pre gd true)
  (h : ∀ (vs : List Value) (w : World), Fit a cores vs → (∀ j ∈ c.pre, ∀ d : Core, cores[j]? = some d → ∃ v, vs[j]? = some v ∧ d.kind.p v w) →
   ∀ w, S w → (execOp (over a (cores.map (·.d)) vs).eval ⟨some c.d, op, ty, pos, after, gd⟩).run P w = .ok (.value u) w) : Va P ops S a W cores c := by
 intro _
 refine ⟨by rw [hk]; rfl, fun vs w hl _ hp o ho' => ?_⟩
 rw [ho] at ho'
 obtain rfl := Option.some.inj ho'
 exact ⟨u, by rw [hk]; exact rfl, Or.inl ⟨hg vs w hl hp _ rfl, fun w' hS => h vs w hl hp w' hS⟩⟩
theorem Jf (c : Core) (op : Op) (ty : TypeId) (pos : String) (after : Array Edge) (gd : Option (Nat × Bool))
  (ho : ops[c.i]? = some ⟨some c.d, op, ty, pos, after, gd⟩) (hk : c.kind = Kind.val undef) (hg : Jay ops a cores c.pre gd false) : Va P ops S a W cores c := by
 intro _
 refine ⟨by rw [hk]; rfl, fun vs w hl _ hp o ho' => ?_⟩
 rw [ho] at ho'
 obtain rfl := Option.some.inj ho'
 exact ⟨undef, by rw [hk]; exact rfl, Or.inr ⟨hg vs w hl hp _ rfl, rfl⟩⟩
theorem Kc (c : Core) (x : Operand) (ty : TypeId) (pos : String) (after : Array Edge) (gd : Option (Nat × Bool)) (u : Value)
  (ho : ops[c.i]? = some ⟨some c.d, .move x, ty, pos, after, gd⟩) (hk : c.kind = Kind.val u) (hg : Jay ops a cores c.pre gd true) (hx : Ve a cores c.pre x u) : Va P ops S a W cores c :=
 Ux c _ ty pos after gd u ho hk hg fun vs w hl hp w' _ => by
  have := hx vs w hl hp
  simp only [execOp, this]; rfl
theorem Ke (c : Core) (x y z : Operand) (ty : TypeId) (pos : String) (after : Array Edge) (gd : Option (Nat × Bool)) (b : Bool) (u v r : Value)
  (ho : ops[c.i]? = some ⟨some c.d, .pick x y z, ty, pos, after, gd⟩) (hk : c.kind = Kind.val r) (hg : Jay ops a cores c.pre gd true) (hx : Ve a cores c.pre x (.bool b)) (hy : Ve a cores c.pre y u) (hz : Ve a cores c.pre z v)
  (hr : r = if b then u else v) : Va P ops S a W cores c :=
 Ux c _ ty pos after gd r ho hk hg fun vs w hl hp w' _ => by
  have e1 := hx vs w hl hp
  have e2 := hy vs w hl hp
  have e3 := hz vs w hl hp
  generalize (over a (cores.map (·.d)) vs).eval = ρ at e1 e2 e3
  subst hr
  cases b <;> simp [execOp, e1, e2, e3, go_sem]
theorem Jv (c : Core) (b : BinOp) (T T2 : TypeId) (x y : Operand) (ty : TypeId) (pos : String) (after : Array Edge) (gd : Option (Nat × Bool)) (u v r : Value)
  (ho : ops[c.i]? = some ⟨some c.d, .binOp b T x y T2, ty, pos, after, gd⟩) (hk : c.kind = Kind.val r) (hg : Jay ops a cores c.pre gd true) (hx : Ve a cores c.pre x u) (hy : Ve a cores c.pre y v)
  (hr : ∀ (ρ : Operand → Value) (w : World), ρ x = u → ρ y = v → (execOp ρ ⟨some c.d, .binOp b T x y T2, ty, pos, after, gd⟩).run P w = .ok (.value r) w) : Va P ops S a W cores c :=
 Ux c _ ty pos after gd r ho hk hg fun vs w hl hp w' _ => hr _ w' (hx vs w hl hp) (hy vs w hl hp)
theorem Jm (c : Core) (x : Operand) (ty : TypeId) (pos : String) (after : Array Edge) (gd : Option (Nat × Bool)) (g : Nat) (u0 u1 u2 u3 : Value)
  (ho : ops[c.i]? = some ⟨some c.d, .load 24 x, ty, pos, after, gd⟩) (hk : c.kind = Kind.val (.agg #[u0, u1, u2, u3])) (hg : Jay ops a cores c.pre gd true) (hx : Ve a cores c.pre x (.pointer (some ⟨g, 0, none⟩)))
  (hs : ∀ w, S w → At w g 24 #[u0, u1, u2, u3]) : Va Tryz.prog ops S a W cores c :=
 Ux c _ ty pos after gd _ ho hk hg fun vs w hl hp w' hS => Jbs x _ ty pos after gd _ w' g u0 u1 u2 u3 (hx vs w hl hp) (hs w' hS)
end

theorem Xm (b : Bool) (x y : Operand) (dst : Option Tmp) (ty : TypeId) (pos : String) (after : Array Edge) (gd : Option (Nat × Bool)) (p0 p1 p2 p3 s0 s1 s2 s3 : Int)
  (h : ∀ w, (Op.equalIn 10000 24 (.agg #[.int .u64 p0, .int .u64 p1, .int .u64 p2, .int .u64 p3]) (.agg #[.int .u64 s0, .int .u64 s1, .int .u64 s2, .int .u64 s3])).run Tryz.prog w = .ok b w) (ρ : Operand → Value) (w : World) (hx : ρ x = .agg #[.int .u64 p0, .int .u64 p1, .int .u64 p2, .int .u64 p3]) (hy : ρ y = .agg #[.int .u64 s0, .int .u64 s1, .int .u64 s2, .int .u64 s3]) :
  (execOp ρ ⟨dst, .binOp .eql 24 x y 24, ty, pos, after, gd⟩).run Tryz.prog w = .ok (.value (.bool b)) w := by
 simp only [execOp, hx, hy]
 simp [go_sem, h]
theorem Jad (b : Bool) (x y : Operand) (dst : Option Tmp) (ty : TypeId) (pos : String) (after : Array Edge) (gd : Option (Nat × Bool)) (p0 p1 p2 p3 s0 s1 s2 s3 : Int)
  (h : ∀ w, (Op.equalIn 10000 24 (.agg #[.int .u64 p0, .int .u64 p1, .int .u64 p2, .int .u64 p3]) (.agg #[.int .u64 s0, .int .u64 s1, .int .u64 s2, .int .u64 s3])).run Tryz.prog w = .ok b w) (ρ : Operand → Value) (w : World) (hx : ρ x = .agg #[.int .u64 p0, .int .u64 p1, .int .u64 p2, .int .u64 p3]) (hy : ρ y = .agg #[.int .u64 s0, .int .u64 s1, .int .u64 s2, .int .u64 s3]) :
  (execOp ρ ⟨dst, .binOp .neq 24 x y 24, ty, pos, after, gd⟩).run Tryz.prog w = .ok (.value (.bool (!b))) w := by
 simp only [execOp, hx, hy]
 simp [go_sem, h]

theorem Kp : ∀ (ds : List Nat) (vs : List Value) (a : Act), (over a ds vs).defers = a.defers
 | [], _, _ => by simp [over]
 | _ :: _, [], _ => by simp [over]
 | d :: ds, v :: vs, a => by rw [over, Kp ds vs]; simp [Act.put]
theorem Wi (a : Act) (d : Nat) (v : Value) (h : d < a.tmps.size) : (a.put (some d) v).tmps.getD d undef = v := by simp [Act.put, Array.getD, h]
theorem Uc (a : Act) (d : Option Tmp) (v : Value) : (a.put d v).defers = a.defers := by cases d <;> rfl
theorem Came.at_ {cores : List Core} {W : World} {vs : List Value} {w : World} {a : Act} (h : Came cores W (List.replicate cores.length true) vs w) (hnd : (cores.map (·.d)).Nodup) (hsz : (cores.map (·.d)).all (fun d => Nat.ble (d + 1) a.tmps.size) = true)
  (k d : Nat) (c : Core) (u : Value) (hc : cores[k]? = some c) (hd : c.d = d) (hk : c.kind = Kind.val u) : (over a (cores.map (·.d)) vs).eval (.tmp d) = u := by
 have hlt : k < cores.length := (List.getElem?_eq_some_iff.1 hc).1
 obtain ⟨v, hv, hp⟩ := h.ok k c hc (by rw [List.getElem?_replicate, if_pos hlt])
 rw [hk] at hp
 have hp : v = u := hp
 subst hp
 subst hd
 exact Jct _ _ _ k _ _ hnd (by rw [List.getElem?_map, hc]; rfl) hv (Nat.le_of_ble_eq_true (List.all_eq_true.1 hsz _ (List.mem_map_of_mem (List.mem_of_getElem? hc))))
theorem Jey (vs : List Value) (h : vs.length = 16) : ∃ v0 v1 v2 v3 v4 v5 v6 v7 v8 v9 v10 v11 v12 v13 v14 v15, vs = [v0, v1, v2, v3, v4, v5, v6, v7, v8, v9, v10, v11, v12, v13, v14, v15] := by
 match vs, h with
 | [v0, v1, v2, v3, v4, v5, v6, v7, v8, v9, v10, v11, v12, v13, v14, v15], _ => exact ⟨v0, v1, v2, v3, v4, v5, v6, v7, v8, v9, v10, v11, v12, v13, v14, v15, rfl⟩
section
variable {P : Program} {ops : Array Oper} {Q : Exit → Act → World → Prop} {md : Region.Mode} {S : World → Prop} {a : Act} {W : World} {cores : List Core}
end
section
variable (dst : Option Tmp) (ty : TypeId) (pos : String) (after : Array Edge) (gd : Option (Nat × Bool)) (x y : Operand) (ρ : Operand → Value) (w : World)
theorem Uk (g k : Nat) (u : Value) (hx : ρ x = .pointer (some ⟨g, k, none⟩)) (h : w.cell? ⟨g, k, none⟩ = some u) :
  (execOp ρ ⟨dst, .load 22 x, ty, pos, after, gd⟩).run Tryz.prog w = .ok (.value u) w := by
 simp [execOp, hx, go_sem, h]
theorem Ug (g k : Nat) (hk : k < 4) (hx : ρ x = .pointer (some ⟨g, 0, none⟩)) (hy : ρ y = .int .i64 (k : Nat)) :
  (execOp ρ ⟨dst, .indexAddr 24 x y, ty, pos, after, gd⟩).run Tryz.prog w = .ok (.value (.pointer (some ⟨g, k, none⟩))) w := by
 have h1 : (k : Int) < 4 := by omega
 have h0 : (0 : Int) ≤ (k : Int) := by omega
 simp [execOp, hx, hy, go_sem, h1, h0, hk]
theorem quo64_run (a b q : Nat) (hb : b ≠ 0) (hq : q = a / b) (hl : q < 18446744073709551616) (hx : ρ x = .int .u64 (a : Nat)) (hy : ρ y = .int .u64 (b : Nat)) :
  (execOp ρ ⟨dst, .binOp BinOp.quo 22 x y 22, ty, pos, after, gd⟩).run Tryz.prog w = .ok (.value (.int .u64 (q : Nat))) w := by
 have hb0 : (b : Int) ≠ 0 := by omega
 have e : Int.tdiv (a : Int) (b : Int) = (q : Nat) := by rw [hq, Int.tdiv_eq_ediv_of_nonneg (by omega)]; exact (Int.natCast_ediv _ _).symm
 have e2 : (a : Int) / (b : Int) = (q : Nat) := by rw [hq]; exact (Int.natCast_ediv _ _).symm
 have e3 : IntKind.u64.wrap (q : Int) = (q : Nat) := by rw [IntKind.wrap_u64]; omega
 simp [execOp, hx, hy, go_sem, hb, hb0, e, e2, e3]
theorem rem64_run (a b q : Nat) (hb : b ≠ 0) (hq : q = a % b) (hl : q < 18446744073709551616) (hx : ρ x = .int .u64 (a : Nat)) (hy : ρ y = .int .u64 (b : Nat)) :
  (execOp ρ ⟨dst, .binOp BinOp.rem 22 x y 22, ty, pos, after, gd⟩).run Tryz.prog w = .ok (.value (.int .u64 (q : Nat))) w := by
 have hb0 : (b : Int) ≠ 0 := by omega
 have e : Int.tmod (a : Int) (b : Int) = (q : Nat) := by rw [hq, Int.tmod_eq_emod_of_nonneg (by omega)]; exact (Int.natCast_emod _ _).symm
 have e2 : (a : Int) % (b : Int) = (q : Nat) := by rw [hq]; exact (Int.natCast_emod _ _).symm
 have e3 : IntKind.u64.wrap (q : Int) = (q : Nat) := by rw [IntKind.wrap_u64]; omega
 simp [execOp, hx, hy, go_sem, hb, hb0, e, e2, e3]
theorem Jbm (p k : Nat) (hk : k = p / 64) (hp : p < 256) (hx : ρ x = .int .i64 (p : Nat)) (hy : ρ y = .int .i64 64) :
  (execOp ρ ⟨dst, .binOp BinOp.quo 3 x y 3, ty, pos, after, gd⟩).run Tryz.prog w = .ok (.value (.int .i64 (k : Nat))) w := by
 have e : Int.tdiv (p : Int) 64 = (k : Nat) := by rw [Int.tdiv_eq_ediv_of_nonneg (by omega)]; omega
 have e2 : (p : Int) / 64 = (k : Nat) := by omega
 have e3 : IntKind.i64.wrap (k : Int) = (k : Nat) := by rw [IntKind.wrap_i64]; omega
 simp [execOp, hx, hy, go_sem, e, e2, e3]
theorem remI_run (p j : Nat) (hj : j = p % 64) (hp : p < 256) (hx : ρ x = .int .i64 (p : Nat)) (hy : ρ y = .int .i64 64) :
  (execOp ρ ⟨dst, .binOp BinOp.rem 3 x y 3, ty, pos, after, gd⟩).run Tryz.prog w = .ok (.value (.int .i64 (j : Nat))) w := by
 have e : Int.tmod (p : Int) 64 = (j : Nat) := by rw [Int.tmod_eq_emod_of_nonneg (by omega)]; omega
 have e2 : (p : Int) % 64 = (j : Nat) := by omega
 have e3 : IntKind.i64.wrap (j : Int) = (j : Nat) := by rw [IntKind.wrap_i64]; omega
 simp [execOp, hx, hy, go_sem, e, e2, e3]
theorem shlI_run (j t : Nat) (hj : j < 64) (ht : t = 2 ^ j) (hx : ρ x = .int .u64 1) (hy : ρ y = .int .i64 (j : Nat)) :
  (execOp ρ ⟨dst, .binOp BinOp.shl 22 x y 3, ty, pos, after, gd⟩).run Tryz.prog w = .ok (.value (.int .u64 (t : Nat))) w := by
 have h0 : ¬ (j : Int) < 0 := by omega
 have h1 : (0 : Int) ≤ (j : Int) := by omega
 have h64 : (j : Int) < 64 := by omega
 have tl : t < 18446744073709551616 := by
  rw [ht]
  have : (2 : Nat) ^ j ≤ 2 ^ 63 := Nat.pow_le_pow_right (by decide) (by omega)
  omega
 have e : ((2 : Int) ^ j) = (t : Nat) := by rw [ht]; simp
 have e3 : IntKind.u64.wrap (t : Int) = (t : Nat) := by rw [IntKind.wrap_u64]; omega
 simp [execOp, hx, hy, go_sem, h0, h1, h64, hj, e, e3]
theorem Jdc (a b r : Nat) (h : a + b = r) (hl : r < 18446744073709551616) (hx : ρ x = .int .u64 (a : Nat)) (hy : ρ y = .int .u64 (b : Nat)) :
  (execOp ρ ⟨dst, .binOp BinOp.add 22 x y 22, ty, pos, after, gd⟩).run Tryz.prog w = .ok (.value (.int .u64 (r : Nat))) w := by
 have e : (a : Int) + (b : Int) = (r : Nat) := by omega
 have e3 : IntKind.u64.wrap (r : Int) = (r : Nat) := by rw [IntKind.wrap_u64]; omega
 simp [execOp, hx, hy, go_sem, e, e3]
end
theorem At.word {w : World} {g X k : Nat} {t : TypeId} (hk : k < 4) (h : At w g t (ncs X)) : w.cell? ⟨g, k, none⟩ = some (.int .u64 (wd X k)) := by
 rw [h.cell k]
 match k, hk with
 | 0, _ => rfl
 | 1, _ => rfl
 | 2, _ => rfl
 | 3, _ => rfl
theorem add_in (Q p k j : Nat) (hp : p < 256) (hk : k = p / 64) (hj : j = p % 64) : wd (Q * 2 ^ (p + 1)) k + 2 ^ j = wd ((2 * Q + 1) * 2 ^ p) k ∧ ∀ i, i ≠ k → wd ((2 * Q + 1) * 2 ^ p) i = wd (Q * 2 ^ (p + 1)) i := by
 obtain ⟨b1, b2, b3⟩ := bit_in Q p 1 (Nat.le_refl _) k j hk hj
 refine ⟨?_, b3⟩
 rw [Nat.one_mul] at b1
 rw [← b1]
 refine (nat_join (j + 1) _ _ ?_ (by rw [Nat.pow_succ]; have := Nat.two_pow_pos j; omega)).symm
 have e : Q * 2 ^ (p + 1) = 18446744073709551616 ^ k * (Q * 2 ^ (j + 1)) := by
  rw [Jeu, show p + 1 = 64 * k + (j + 1) by omega, Nat.pow_add]; ac_rfl
 unfold wd
 rw [e, Nat.mul_div_cancel_left _ (Nat.pow_pos (by decide))]
 have dv : (2 : Nat) ^ (j + 1) ∣ 18446744073709551616 := by
  rw [show (18446744073709551616 : Nat) = 2 ^ 64 from rfl]; exact Nat.pow_dvd_pow 2 (by omega)
 rw [Nat.mod_mod_of_dvd _ dv, Nat.mul_mod_left]
end Go.Proofs.YtodlpmepoakdlaaGreat
