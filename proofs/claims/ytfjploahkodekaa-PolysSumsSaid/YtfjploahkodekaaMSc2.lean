/-
  The walk of DividesOf: it answers true, and nothing that was there is changed.
-/
import Derived.Deep.Cut
import Derived.Test.YtfjploahkodekaaMBitsLN
import Derived.Test.YtfjploahkodekaaMChain
import Derived.Test.YtfjploahkodekaaMMod11
import Derived.Test.YtfjploahkodekaaMMod8
import Derived.Test.YtfjploahkodekaaMRWWord
import Derived.Test.YtfjploahkodekaaMSc
import Derived.Test.YtfjploahkodekaaMShort
namespace Go.Proofs.Ytfjploahkodekaa
set_option maxRecDepth 100000
open Go.RowKit
set_option linter.unusedSimpArgs false
set_option linter.unusedVariables false
attribute [local go_sem ↓] Go.wp_at_zero Go.wp_at_succ

theorem idx3_0 (dst : Option Tmp) (ty : TypeId) (pos : String) (after : Array Edge) (gd : Option (Nat × Bool)) (x : Operand) (ρ : Operand → Value) (w : World) (g : Nat) (hx : ρ x = .pointer (some ⟨g, 0, none⟩)) (hcc : ρ (.const (.int .i64 0)) = .int .i64 0) :
    (execOp ρ ⟨dst, .indexAddr 41 x (.const (.int .i64 0)), ty, pos, after, gd⟩).run Try.prog w = .ok (.value (.pointer (some ⟨g, 0, none⟩))) w := by
  simp [execOp, hx, hcc, go_sem]
theorem load3_0 (dst : Option Tmp) (ty : TypeId) (pos : String) (after : Array Edge) (gd : Option (Nat × Bool)) (x : Operand) (ρ : Operand → Value) (w : World) (g : Nat) (a0 a1 a2 a3 a4 a5 a6 a7 a8 a9 a10 a11 : Value) (hx : ρ x = .pointer (some ⟨g, 0, none⟩)) (h : At w g 41 #[a0, a1, a2, a3, a4, a5, a6, a7, a8, a9, a10, a11]) :
    (execOp ρ ⟨dst, .load 24 x, ty, pos, after, gd⟩).run Try.prog w = .ok (.value (.agg #[a0, a1, a2, a3])) w := by
  have c0 : w.cell? ⟨g, 0, none⟩ = some a0 := h.cell 0
  have c1 : w.cell? ⟨g, 1, none⟩ = some a1 := h.cell 1
  have c2 : w.cell? ⟨g, 2, none⟩ = some a2 := h.cell 2
  have c3 : w.cell? ⟨g, 3, none⟩ = some a3 := h.cell 3
  simp [execOp, hx, go_sem, c0, c1, c2, c3]
theorem idx3_1 (dst : Option Tmp) (ty : TypeId) (pos : String) (after : Array Edge) (gd : Option (Nat × Bool)) (x : Operand) (ρ : Operand → Value) (w : World) (g : Nat) (hx : ρ x = .pointer (some ⟨g, 0, none⟩)) (hcc : ρ (.const (.int .i64 1)) = .int .i64 1) :
    (execOp ρ ⟨dst, .indexAddr 41 x (.const (.int .i64 1)), ty, pos, after, gd⟩).run Try.prog w = .ok (.value (.pointer (some ⟨g, 4, none⟩))) w := by
  simp [execOp, hx, hcc, go_sem]
theorem load3_1 (dst : Option Tmp) (ty : TypeId) (pos : String) (after : Array Edge) (gd : Option (Nat × Bool)) (x : Operand) (ρ : Operand → Value) (w : World) (g : Nat) (a0 a1 a2 a3 a4 a5 a6 a7 a8 a9 a10 a11 : Value) (hx : ρ x = .pointer (some ⟨g, 4, none⟩)) (h : At w g 41 #[a0, a1, a2, a3, a4, a5, a6, a7, a8, a9, a10, a11]) :
    (execOp ρ ⟨dst, .load 24 x, ty, pos, after, gd⟩).run Try.prog w = .ok (.value (.agg #[a4, a5, a6, a7])) w := by
  have c0 : w.cell? ⟨g, 4, none⟩ = some a4 := h.cell 4
  have c1 : w.cell? ⟨g, 5, none⟩ = some a5 := h.cell 5
  have c2 : w.cell? ⟨g, 6, none⟩ = some a6 := h.cell 6
  have c3 : w.cell? ⟨g, 7, none⟩ = some a7 := h.cell 7
  simp [execOp, hx, go_sem, c0, c1, c2, c3]
end Go.Proofs.Ytfjploahkodekaa

/-
  balefireref02.Mul: digit by digit.
-/
namespace Go.Proofs.Ytfjploahkodekaa
set_option maxRecDepth 100000
open Go.RowKit
set_option linter.unusedSimpArgs false
set_option linter.unusedVariables false
attribute [local go_sem ↓] Go.wp_at_zero Go.wp_at_succ

section
variable {P : Program} {ops : Array Oper} {Q : Exit → Act → World → Prop} {a : Act} {W : World} {cores : List Core}
theorem core_callW (c : Core) (f : FuncId) (fn : Func) (code : Code) (xs : List Operand) (us : List Value) (tys : Array TypeId) (ty : TypeId) (pos : String) (after : Array Edge) (u : Value)
    (ho : ops[c.i]? = some ⟨some c.d, .call ⟨.value (.func f), xs.toArray, tys⟩, ty, pos, after, none⟩) (hf : P.funcs[f]? = some fn) (hn : (fn.name == "runtime.NumGoroutine") = false) (hb : fn.body = some code)
    (hk : c.kind = Kind.val u) (hx : Args a cores c.pre xs us)
    (C : ∀ w, Below W.heap.size W w → Calls P f us.toArray w fun e w' => e = .returned u ∧ Below w.heap.size w w') : StepOK P ops Q a W cores c := by
  intro vs w hl hbw hp o ho' K hK
  rw [ho] at ho'
  obtain rfl := Option.some.inj ho'
  refine want_none rfl ?_
  have hargs : xs.toArray.map (over a (cores.map (·.d)) vs).eval = us.toArray := by
    rw [List.map_toArray]
    congr 1
    clear ho C ho'
    induction hx with
    | nil => rfl
    | cons h _ ih => rw [List.map_cons, h vs w hl hp, ih]
  have hrun : ∀ w, (execOp (over a (cores.map (·.d)) vs).eval ⟨some c.d, .call ⟨.value (.func f), xs.toArray, tys⟩, ty, pos, after, none⟩).run P w = .ok (.enter f us.toArray) w := fun w => by
    have h := run_enter hf hn hb us.toArray w
    simp only [execOp, resolve, hargs]
    simpa [Act.eval, Deferred.ofValue, invoke, go_sem] using h
  unfold Oper.wp
  rw [hrun w, Oper.upon_enter]
  refine (C w hbw).mono fun e w' ⟨he, hb⟩ => ?_
  subst he
  exact hK.out u w' hb (by rw [hk]; exact rfl) (fun h => by rw [hk] at h; cases h)
end

theorem rmul_num (x y m c : Nat) (hx : x < 65536) (hy : y < 65536) (hm : m < 65536) (hc : c < 65536) : ∃ n l c' : Nat, n = m + x * y + c ∧ l = n % 65536 ∧ c' = n / 65536 ∧ l < 65536 ∧ c' < 65536 ∧ n < 4294967296 ∧ x * y < 4294836226 ∧ x * y + m + c = l + 65536 * c' := by
  have : x * y ≤ 65535 * 65535 := Nat.mul_le_mul (by omega) (by omega)
  exact ⟨_, _, _, rfl, rfl, rfl, by omega, by omega, by omega, by omega, by omega⟩

def rmulRes (X Y : Nat) (e : Ending) : Prop := ∃ L H : Nat, e = .returned (.tuple #[num L, num H]) ∧ L < 65536 ^ 16 ∧ H < 65536 ^ 16 ∧ X * Y = L + 65536 ^ 16 * H
end Go.Proofs.Ytfjploahkodekaa

/-
  balefireref04: whether numbers may, sums, differences, products.
-/
namespace Go.Proofs.Ytfjploahkodekaa
set_option maxRecDepth 100000
open Go.RowKit
set_option linter.unusedSimpArgs false
set_option linter.unusedVariables false
attribute [local go_sem ↓] Go.wp_at_zero Go.wp_at_succ

end Go.Proofs.Ytfjploahkodekaa

/-
  balefireref04: sums, differences, products as mods does them.
-/
namespace Go.Proofs.Ytfjploahkodekaa
set_option maxRecDepth 100000
open Go.RowKit
set_option linter.unusedSimpArgs false
set_option linter.unusedVariables false
attribute [local go_sem ↓] Go.wp_at_zero Go.wp_at_succ

theorem w0_of (X : Nat) (h : X < 18446744073709551616) : wd X 0 = X := by unfold wd; rw [Nat.pow_zero, Nat.div_one, Nat.mod_eq_of_lt h]
theorem mul64_any (a b : Nat) (ha : a < 18446744073709551616) (hb : b < 18446744073709551616) (w : World) : Calls Try.prog 55 #[.int .u64 (a : Nat), .int .u64 (b : Nat)] w fun e w' => e = .returned (.tuple #[.int .u64 ((a * b / 18446744073709551616 : Nat) : Int), .int .u64 ((a * b % 18446744073709551616 : Nat) : Int)]) ∧ Below w.heap.size w w' := (mul64 a b ha hb w).mono fun e w' ⟨he, hw⟩ => ⟨he, by rw [← hw]; exact Below.refl _ _⟩
end Go.Proofs.Ytfjploahkodekaa

/-
  balefireref04: powers.
-/
namespace Go.Proofs.Ytfjploahkodekaa
set_option maxRecDepth 100000
open Go.RowKit
set_option linter.unusedSimpArgs false
set_option linter.unusedVariables false
attribute [local go_sem ↓] Go.wp_at_zero Go.wp_at_succ

end Go.Proofs.Ytfjploahkodekaa

/-
  balefireref04.Exp.
-/
namespace Go.Proofs.Ytfjploahkodekaa
set_option maxRecDepth 100000
open Go.RowKit
set_option linter.unusedSimpArgs false
set_option linter.unusedVariables false
attribute [local go_sem ↓] Go.wp_at_zero Go.wp_at_succ

end Go.Proofs.Ytfjploahkodekaa

/-
  balefireref04.Inv.
-/
namespace Go.Proofs.Ytfjploahkodekaa
set_option maxRecDepth 100000
open Go.RowKit
set_option linter.unusedSimpArgs false
set_option linter.unusedVariables false
attribute [local go_sem ↓] Go.wp_at_zero Go.wp_at_succ

end Go.Proofs.Ytfjploahkodekaa

/-
  The walk of ModsOf: it answers true, and nothing that was there is changed.
-/
namespace Go.Proofs.Ytfjploahkodekaa
set_option maxRecDepth 100000
open Go.RowKit
set_option linter.unusedSimpArgs false
set_option linter.unusedVariables false
attribute [local go_sem ↓] Go.wp_at_zero Go.wp_at_succ

end Go.Proofs.Ytfjploahkodekaa

/-
  scalars: Add, Sub, Mul, Inv; the document's too.
-/
namespace Go.Proofs.Ytfjploahkodekaa
set_option maxRecDepth 100000
open Go.RowKit
set_option linter.unusedSimpArgs false
set_option linter.unusedVariables false
attribute [local go_sem ↓] Go.wp_at_zero Go.wp_at_succ

set_option maxRecDepth 100000 in
set_option maxHeartbeats 8000000 in
theorem s_add (P Q G H A B V : Nat) (er : Int)
    (c1 : ∀ w, Calls Try.prog 30 #[num A, num B, num Q] w fun e w' => e = .returned (.tuple #[num V, .int .i64 er]) ∧ Below w.heap.size w w')
    (w : World) : Calls Try.prog 12 #[grp P Q G H, num A, num B] w fun e w' => e = .returned (.tuple #[num V, .int .i64 er]) ∧ Below w.heap.size w w' := by
  refine sx_enter (args := [grp P Q G H, num A, num B]) Try.func12 rfl Try.ntmps12 (by rfl) fun a F HM => ?_
  repeat (first | refine ex_then ?_ | refine ex_block ?_ | refine wp_seq ?_ | refine wp_block ?_ | refine wp_skip ?_)
  refine wp_region_lit ?_
  refine lx_new F HM (wanted_none rfl _) rfl (by rfl) (o_boxG (F.ev rfl)) fun a w gg F HM => ?_
  refine lx_new F HM (wanted_none rfl _) rfl (by rfl) (o_boxN (F.ev rfl)) fun a w ga F HM => ?_
  refine lx_new F HM (wanted_none rfl _) rfl (by rfl) (o_boxN (F.ev rfl)) fun a w gb F HM => ?_
  refine lx_new F HM (wanted_none rfl _) rfl (by rfl) (o_allocN) fun a w go F HM => ?_
  refine lx_value (v := .int .i64 0) F (wanted_none rfl _) rfl (by rfl) (o_assign rfl) fun a F => ?_
  refine lx_nil ?_
  repeat (first | refine ex_then ?_ | refine ex_block ?_ | refine wp_seq ?_ | refine wp_block ?_ | refine wp_skip ?_)
  refine wp_region_lit ?_
  refine lx_value (v := num A) F (wanted_none rfl _) rfl (by rfl) (o_loadN (F.ev rfl) (HM.get 2 rfl)) fun a F => ?_
  refine lx_value (v := num B) F (wanted_none rfl _) rfl (by rfl) (o_loadN (F.ev rfl) (HM.get 1 rfl)) fun a F => ?_
  refine lx_value (v := .pointer (some ⟨gg, 4, none⟩)) F (wanted_none rfl _) rfl (by rfl) (o_fieldG1 (F.ev rfl)) fun a F => ?_
  refine lx_value (v := num Q) F (wanted_none rfl _) rfl (by rfl) (o_loadG1 (F.ev rfl) (HM.get 3 rfl)) fun a F => ?_
  refine lx_call F (wanted_none rfl _) rfl (by rfl) (run_callF Try.func30 (by kernel_rfl) (by rfl) (.cons (F.ev rfl) (.cons (F.ev rfl) (.cons (F.ev rfl) .nil))) _) (c1 _) fun a w z F => ?_
  replace HM := HM.on z
  clear z
  refine lx_value (v := num V) F (wanted_none rfl _) rfl (by rfl) (o_extract (F.ev rfl) rfl) fun a F => ?_
  refine lx_value (v := .int .i64 er) F (wanted_none rfl _) rfl (by rfl) (o_extract (F.ev rfl) rfl) fun a F => ?_
  refine lx_store F HM (wanted_none rfl _) rfl (k := 0) rfl (o_storeN (F.ev rfl) (F.ev rfl) (HM.get 0 rfl)) (M2 := [(go, 24, ncs V), (gb, 24, ncs B), (ga, 24, ncs A), (gg, 26, gcs P Q G H)]) rfl fun w HM => ?_
  refine lx_value (v := .int .i64 er) F (wanted_none rfl _) rfl (by rfl) (o_assign (F.ev rfl)) fun a F => ?_
  refine lx_nil ?_
  repeat (first | refine ex_then ?_ | refine ex_block ?_ | refine wp_seq ?_ | refine wp_block ?_ | refine wp_skip ?_)
  refine wp_ret ?_
  repeat (first | refine ex_thenR ?_ | refine ex_blockR ?_)
  exact sx_ret F HM (res_NI F (s := 6) (t := 7) rfl rfl rfl (HM.get 0 rfl))

set_option maxRecDepth 100000 in
set_option maxHeartbeats 8000000 in
theorem s_sub (P Q G H A B V : Nat) (er : Int)
    (c1 : ∀ w, Calls Try.prog 35 #[num A, num B, num Q] w fun e w' => e = .returned (.tuple #[num V, .int .i64 er]) ∧ Below w.heap.size w w')
    (w : World) : Calls Try.prog 20 #[grp P Q G H, num A, num B] w fun e w' => e = .returned (.tuple #[num V, .int .i64 er]) ∧ Below w.heap.size w w' := by
  refine sx_enter (args := [grp P Q G H, num A, num B]) Try.func20 rfl Try.ntmps20 (by rfl) fun a F HM => ?_
  repeat (first | refine ex_then ?_ | refine ex_block ?_ | refine wp_seq ?_ | refine wp_block ?_ | refine wp_skip ?_)
  refine wp_region_lit ?_
  refine lx_new F HM (wanted_none rfl _) rfl (by rfl) (o_boxG (F.ev rfl)) fun a w gg F HM => ?_
  refine lx_new F HM (wanted_none rfl _) rfl (by rfl) (o_boxN (F.ev rfl)) fun a w ga F HM => ?_
  refine lx_new F HM (wanted_none rfl _) rfl (by rfl) (o_boxN (F.ev rfl)) fun a w gb F HM => ?_
  refine lx_new F HM (wanted_none rfl _) rfl (by rfl) (o_allocN) fun a w go F HM => ?_
  refine lx_value (v := .int .i64 0) F (wanted_none rfl _) rfl (by rfl) (o_assign rfl) fun a F => ?_
  refine lx_nil ?_
  repeat (first | refine ex_then ?_ | refine ex_block ?_ | refine wp_seq ?_ | refine wp_block ?_ | refine wp_skip ?_)
  refine wp_region_lit ?_
  refine lx_value (v := num A) F (wanted_none rfl _) rfl (by rfl) (o_loadN (F.ev rfl) (HM.get 2 rfl)) fun a F => ?_
  refine lx_value (v := num B) F (wanted_none rfl _) rfl (by rfl) (o_loadN (F.ev rfl) (HM.get 1 rfl)) fun a F => ?_
  refine lx_value (v := .pointer (some ⟨gg, 4, none⟩)) F (wanted_none rfl _) rfl (by rfl) (o_fieldG1 (F.ev rfl)) fun a F => ?_
  refine lx_value (v := num Q) F (wanted_none rfl _) rfl (by rfl) (o_loadG1 (F.ev rfl) (HM.get 3 rfl)) fun a F => ?_
  refine lx_call F (wanted_none rfl _) rfl (by rfl) (run_callF Try.func35 (by kernel_rfl) (by rfl) (.cons (F.ev rfl) (.cons (F.ev rfl) (.cons (F.ev rfl) .nil))) _) (c1 _) fun a w z F => ?_
  replace HM := HM.on z
  clear z
  refine lx_value (v := num V) F (wanted_none rfl _) rfl (by rfl) (o_extract (F.ev rfl) rfl) fun a F => ?_
  refine lx_value (v := .int .i64 er) F (wanted_none rfl _) rfl (by rfl) (o_extract (F.ev rfl) rfl) fun a F => ?_
  refine lx_store F HM (wanted_none rfl _) rfl (k := 0) rfl (o_storeN (F.ev rfl) (F.ev rfl) (HM.get 0 rfl)) (M2 := [(go, 24, ncs V), (gb, 24, ncs B), (ga, 24, ncs A), (gg, 26, gcs P Q G H)]) rfl fun w HM => ?_
  refine lx_value (v := .int .i64 er) F (wanted_none rfl _) rfl (by rfl) (o_assign (F.ev rfl)) fun a F => ?_
  refine lx_nil ?_
  repeat (first | refine ex_then ?_ | refine ex_block ?_ | refine wp_seq ?_ | refine wp_block ?_ | refine wp_skip ?_)
  refine wp_ret ?_
  repeat (first | refine ex_thenR ?_ | refine ex_blockR ?_)
  exact sx_ret F HM (res_NI F (s := 6) (t := 7) rfl rfl rfl (HM.get 0 rfl))

set_option maxRecDepth 100000 in
set_option maxHeartbeats 8000000 in
theorem s_mul (P Q G H A B V : Nat) (er : Int)
    (c1 : ∀ w, Calls Try.prog 31 #[num A, num B, num Q] w fun e w' => e = .returned (.tuple #[num V, .int .i64 er]) ∧ Below w.heap.size w w')
    (w : World) : Calls Try.prog 13 #[grp P Q G H, num A, num B] w fun e w' => e = .returned (.tuple #[num V, .int .i64 er]) ∧ Below w.heap.size w w' := by
  refine sx_enter (args := [grp P Q G H, num A, num B]) Try.func13 rfl Try.ntmps13 (by rfl) fun a F HM => ?_
  repeat (first | refine ex_then ?_ | refine ex_block ?_ | refine wp_seq ?_ | refine wp_block ?_ | refine wp_skip ?_)
  refine wp_region_lit ?_
  refine lx_new F HM (wanted_none rfl _) rfl (by rfl) (o_boxG (F.ev rfl)) fun a w gg F HM => ?_
  refine lx_new F HM (wanted_none rfl _) rfl (by rfl) (o_boxN (F.ev rfl)) fun a w ga F HM => ?_
  refine lx_new F HM (wanted_none rfl _) rfl (by rfl) (o_boxN (F.ev rfl)) fun a w gb F HM => ?_
  refine lx_new F HM (wanted_none rfl _) rfl (by rfl) (o_allocN) fun a w go F HM => ?_
  refine lx_value (v := .int .i64 0) F (wanted_none rfl _) rfl (by rfl) (o_assign rfl) fun a F => ?_
  refine lx_nil ?_
  repeat (first | refine ex_then ?_ | refine ex_block ?_ | refine wp_seq ?_ | refine wp_block ?_ | refine wp_skip ?_)
  refine wp_region_lit ?_
  refine lx_value (v := num A) F (wanted_none rfl _) rfl (by rfl) (o_loadN (F.ev rfl) (HM.get 2 rfl)) fun a F => ?_
  refine lx_value (v := num B) F (wanted_none rfl _) rfl (by rfl) (o_loadN (F.ev rfl) (HM.get 1 rfl)) fun a F => ?_
  refine lx_value (v := .pointer (some ⟨gg, 4, none⟩)) F (wanted_none rfl _) rfl (by rfl) (o_fieldG1 (F.ev rfl)) fun a F => ?_
  refine lx_value (v := num Q) F (wanted_none rfl _) rfl (by rfl) (o_loadG1 (F.ev rfl) (HM.get 3 rfl)) fun a F => ?_
  refine lx_call F (wanted_none rfl _) rfl (by rfl) (run_callF Try.func31 (by kernel_rfl) (by rfl) (.cons (F.ev rfl) (.cons (F.ev rfl) (.cons (F.ev rfl) .nil))) _) (c1 _) fun a w z F => ?_
  replace HM := HM.on z
  clear z
  refine lx_value (v := num V) F (wanted_none rfl _) rfl (by rfl) (o_extract (F.ev rfl) rfl) fun a F => ?_
  refine lx_value (v := .int .i64 er) F (wanted_none rfl _) rfl (by rfl) (o_extract (F.ev rfl) rfl) fun a F => ?_
  refine lx_store F HM (wanted_none rfl _) rfl (k := 0) rfl (o_storeN (F.ev rfl) (F.ev rfl) (HM.get 0 rfl)) (M2 := [(go, 24, ncs V), (gb, 24, ncs B), (ga, 24, ncs A), (gg, 26, gcs P Q G H)]) rfl fun w HM => ?_
  refine lx_value (v := .int .i64 er) F (wanted_none rfl _) rfl (by rfl) (o_assign (F.ev rfl)) fun a F => ?_
  refine lx_nil ?_
  repeat (first | refine ex_then ?_ | refine ex_block ?_ | refine wp_seq ?_ | refine wp_block ?_ | refine wp_skip ?_)
  refine wp_ret ?_
  repeat (first | refine ex_thenR ?_ | refine ex_blockR ?_)
  exact sx_ret F HM (res_NI F (s := 6) (t := 7) rfl rfl rfl (HM.get 0 rfl))

set_option maxRecDepth 100000 in
set_option maxHeartbeats 8000000 in
theorem s_inv (P Q G H A V : Nat) (er : Int)
    (c1 : ∀ w, Calls Try.prog 34 #[num A, num Q] w fun e w' => e = .returned (.tuple #[num V, .int .i64 er]) ∧ Below w.heap.size w w')
    (w : World) : Calls Try.prog 15 #[grp P Q G H, num A] w fun e w' => e = .returned (.tuple #[num V, .int .i64 er]) ∧ Below w.heap.size w w' := by
  refine sx_enter (args := [grp P Q G H, num A]) Try.func15 rfl Try.ntmps15 (by rfl) fun a F HM => ?_
  repeat (first | refine ex_then ?_ | refine ex_block ?_ | refine wp_seq ?_ | refine wp_block ?_ | refine wp_skip ?_)
  refine wp_region_lit ?_
  refine lx_new F HM (wanted_none rfl _) rfl (by rfl) (o_boxG (F.ev rfl)) fun a w gg F HM => ?_
  refine lx_new F HM (wanted_none rfl _) rfl (by rfl) (o_boxN (F.ev rfl)) fun a w ga F HM => ?_
  refine lx_new F HM (wanted_none rfl _) rfl (by rfl) (o_allocN) fun a w go F HM => ?_
  refine lx_value (v := .int .i64 0) F (wanted_none rfl _) rfl (by rfl) (o_assign rfl) fun a F => ?_
  refine lx_nil ?_
  repeat (first | refine ex_then ?_ | refine ex_block ?_ | refine wp_seq ?_ | refine wp_block ?_ | refine wp_skip ?_)
  refine wp_region_lit ?_
  refine lx_value (v := num A) F (wanted_none rfl _) rfl (by rfl) (o_loadN (F.ev rfl) (HM.get 1 rfl)) fun a F => ?_
  refine lx_value (v := .pointer (some ⟨gg, 4, none⟩)) F (wanted_none rfl _) rfl (by rfl) (o_fieldG1 (F.ev rfl)) fun a F => ?_
  refine lx_value (v := num Q) F (wanted_none rfl _) rfl (by rfl) (o_loadG1 (F.ev rfl) (HM.get 2 rfl)) fun a F => ?_
  refine lx_call F (wanted_none rfl _) rfl (by rfl) (run_callF Try.func34 (by kernel_rfl) (by rfl) (.cons (F.ev rfl) (.cons (F.ev rfl) .nil)) _) (c1 _) fun a w z F => ?_
  replace HM := HM.on z
  clear z
  refine lx_value (v := num V) F (wanted_none rfl _) rfl (by rfl) (o_extract (F.ev rfl) rfl) fun a F => ?_
  refine lx_value (v := .int .i64 er) F (wanted_none rfl _) rfl (by rfl) (o_extract (F.ev rfl) rfl) fun a F => ?_
  refine lx_store F HM (wanted_none rfl _) rfl (k := 0) rfl (o_storeN (F.ev rfl) (F.ev rfl) (HM.get 0 rfl)) (M2 := [(go, 24, ncs V), (ga, 24, ncs A), (gg, 26, gcs P Q G H)]) rfl fun w HM => ?_
  refine lx_value (v := .int .i64 er) F (wanted_none rfl _) rfl (by rfl) (o_assign (F.ev rfl)) fun a F => ?_
  refine lx_nil ?_
  repeat (first | refine ex_then ?_ | refine ex_block ?_ | refine wp_seq ?_ | refine wp_block ?_ | refine wp_skip ?_)
  refine wp_ret ?_
  repeat (first | refine ex_thenR ?_ | refine ex_blockR ?_)
  exact sx_ret F HM (res_NI F (s := 4) (t := 5) rfl rfl rfl (HM.get 0 rfl))

theorem sadd_yes (P Q G H A B : Nat) (hQ : Q < 2 ^ 256) (h1 : 1 < Q) (hA : A < Q) (hB : B < Q) : ∀ w, Calls Try.prog 12 #[grp P Q G H, num A, num B] w fun e w' => e = .returned (.tuple #[num ((A + B) % Q), .int .i64 0]) ∧ Below w.heap.size w w' := fun w => s_add P Q G H A B _ _ (madd_yes A B Q hQ h1 hA hB) w
theorem sadd_no (P Q G H A B : Nat) (hQ : Q < 2 ^ 256) (hA : A < 2 ^ 256) (hB : B < 2 ^ 256) (h : ¬ (1 < Q ∧ A < Q ∧ B < Q)) : ∀ w, Calls Try.prog 12 #[grp P Q G H, num A, num B] w fun e w' => e = .returned (.tuple #[num 0, .int .i64 1]) ∧ Below w.heap.size w w' := fun w => s_add P Q G H A B _ _ (madd_no A B Q hA hB hQ h) w
theorem ssub_yes (P Q G H A B : Nat) (hQ : Q < 2 ^ 256) (h1 : 1 < Q) (hA : A < Q) (hB : B < Q) : ∀ w, Calls Try.prog 20 #[grp P Q G H, num A, num B] w fun e w' => e = .returned (.tuple #[num ((A + Q - B) % Q), .int .i64 0]) ∧ Below w.heap.size w w' := fun w => s_sub P Q G H A B _ _ (msub_yes A B Q hQ h1 hA hB) w
theorem ssub_no (P Q G H A B : Nat) (hQ : Q < 2 ^ 256) (hA : A < 2 ^ 256) (hB : B < 2 ^ 256) (h : ¬ (1 < Q ∧ A < Q ∧ B < Q)) : ∀ w, Calls Try.prog 20 #[grp P Q G H, num A, num B] w fun e w' => e = .returned (.tuple #[num 0, .int .i64 1]) ∧ Below w.heap.size w w' := fun w => s_sub P Q G H A B _ _ (msub_no A B Q hA hB hQ h) w
theorem smul_yes (P Q G H A B : Nat) (hQ : Q < 2 ^ 256) (h1 : 1 < Q) (hA : A < Q) (hB : B < Q) : ∀ w, Calls Try.prog 13 #[grp P Q G H, num A, num B] w fun e w' => e = .returned (.tuple #[num (A * B % Q), .int .i64 0]) ∧ Below w.heap.size w w' := fun w => s_mul P Q G H A B _ _ (mmul_yes A B Q hQ h1 hA hB) w
theorem smul_no (P Q G H A B : Nat) (hQ : Q < 2 ^ 256) (hA : A < 2 ^ 256) (hB : B < 2 ^ 256) (h : ¬ (1 < Q ∧ A < Q ∧ B < Q)) : ∀ w, Calls Try.prog 13 #[grp P Q G H, num A, num B] w fun e w' => e = .returned (.tuple #[num 0, .int .i64 1]) ∧ Below w.heap.size w w' := fun w => s_mul P Q G H A B _ _ (mmul_no A B Q hA hB hQ h) w
theorem sinv_yes (P Q G H A V : Nat) (hQ : Q < 2 ^ 256) (h1 : 1 < Q) (hA : A < Q) (hV : V < Q) (hAV : A * V % Q = 1) : ∀ w, Calls Try.prog 15 #[grp P Q G H, num A] w fun e w' => e = .returned (.tuple #[num V, .int .i64 0]) ∧ Below w.heap.size w w' := fun w => s_inv P Q G H A V _ (minv_yes A Q V hQ h1 hA hV hAV) w
theorem sinv_none (P Q G H A : Nat) (hQ : Q < 2 ^ 256) (h1 : 1 < Q) (hA : A < Q) (hg : Nat.gcd A Q ≠ 1) : ∀ w, Calls Try.prog 15 #[grp P Q G H, num A] w fun e w' => e = .returned (.tuple #[num 0, .int .i64 7]) ∧ Below w.heap.size w w' := fun w => s_inv P Q G H A 0 _ (minv_none A Q hQ h1 hA hg) w
theorem sinv_no (P Q G H A : Nat) (hQ : Q < 2 ^ 256) (hA : A < 2 ^ 256) (h : ¬ (1 < Q ∧ A < Q)) : ∀ w, Calls Try.prog 15 #[grp P Q G H, num A] w fun e w' => e = .returned (.tuple #[num 0, .int .i64 1]) ∧ Below w.heap.size w w' := fun w => s_inv P Q G H A 0 _ (minv_no A Q hA hQ h) w
end Go.Proofs.Ytfjploahkodekaa
