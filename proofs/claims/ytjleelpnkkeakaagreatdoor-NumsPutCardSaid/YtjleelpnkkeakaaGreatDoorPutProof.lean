/-
  NumsPut, for every input: it answers true, and its arguments read as they did, as a card whose listed variables are tied to the program's text.
  Conditions: the three listed package-level tables of the standard library start as the text lays them (the given tie); the tie speaks of the seat's pruned copy of the project. No condition on the arguments; the walk reads none of the tables.
-/
import Derived.Test.YtjleelpnkkeakaaGreatDoorOpen
import Derived.Test.YtjleelpnkkeakaaGreatDoorLawPut
import Derived.Test.YtjleelpnkkeakaaGreatDoorCards
import Derived.Test.YtjleelpnkkeakaaGreatDoorTie
import Derived.Deep.DeepHandedRow
import Derived.Lib.LaidTab
namespace Go.Proofs.YtjleelpnkkeakaaGreatDoor
open Go.ChangeShapes Go.WideShapes Go.ChangeAt Go.RowKit

theorem cellsT24 : Tryz.prog.cellsOf 25 = 4 := by kernel_rfl
theorem cellsT22 : Tryz.prog.cellsOf 23 = 1 := by kernel_rfl
theorem cellsT26 : Tryz.prog.cellsOf 27 = 6 := by kernel_rfl
theorem cellsT3 : Tryz.prog.cellsOf 3 = 1 := by kernel_rfl

section
variable {H : Type} {enc : TypeId × Value → H} {w : World} {held : Bool}

set_option maxRecDepth 100000 in
theorem open_word {fuel : Nat} {c : Value} {x : DataW H × List MemPlace} (h : DataW.trod enc Tryz.prog w 0 (fun _ => true) held fuel 23 [c] = some x) :
    ∃ n : Nat, c = .int .u64 (n : Int) ∧ n < 18446744073709551616 := by
  obtain ⟨n, e, _, hw⟩ := DataW.trod_int Tryz.underlying23 h
  have bd := bounds_u64 hw
  simp at e
  exact ⟨n.toNat, by rw [e, Int.toNat_of_nonneg bd.1], by omega⟩

set_option maxRecDepth 100000 in
theorem open_four {fuel : Nat} {c0 c1 c2 c3 : Value} {x : DataW H × List MemPlace} (h : DataW.trod enc Tryz.prog w 0 (fun _ => true) held fuel 25 [c0, c1, c2, c3] = some x) :
    ∃ a b p q : Nat, c0 = .int .u64 (a : Int) ∧ c1 = .int .u64 (b : Int) ∧ c2 = .int .u64 (p : Int) ∧ c3 = .int .u64 (q : Int) ∧
      a < 18446744073709551616 ∧ b < 18446744073709551616 ∧ p < 18446744073709551616 ∧ q < 18446744073709551616 := by
  obtain ⟨xs, m, rfl, hx, hl, hn, he⟩ := DataW.trod_array Tryz.underlying25 h
  rw [cellsT22] at he
  match xs, hn with
  | [x0, x1, x2, x3], _ =>
    have e0 := he 0 (by omega)
    have e1 := he 1 (by omega)
    have e2 := he 2 (by omega)
    have e3 := he 3 (by omega)
    simp at e0 e1 e2 e3
    obtain ⟨a, ha, wa⟩ := open_word e0
    obtain ⟨b, hb, wb⟩ := open_word e1
    obtain ⟨p, hp, wp⟩ := open_word e2
    obtain ⟨q, hq, wq⟩ := open_word e3
    exact ⟨a, b, p, q, ha, hb, hp, hq, wa, wb, wp, wq⟩

set_option maxRecDepth 100000 in
theorem open_given {base : Nat} {v : Value} {d : DataW H} {pl : List MemPlace} (hv : Value.okWide Tryz.prog w .any base 27 v) (h : DataW.Trod enc Tryz.prog w 0 (fun _ => true) held 27 v d pl) :
    ∃ (x : Nat) (kk : Int) (a b p q : Nat), v = .agg #[.int .u64 x, .int .i64 kk, .int .u64 a, .int .u64 b, .int .u64 p, .int .u64 q] ∧ x < 18446744073709551616 ∧
      (-9223372036854775808 ≤ kk ∧ kk ≤ 9223372036854775807) ∧ a < 18446744073709551616 ∧ b < 18446744073709551616 ∧ p < 18446744073709551616 ∧ q < 18446744073709551616 := by
  obtain ⟨cs, rfl, hsz⟩ := okWide_struct Tryz.underlying27 hv
  obtain ⟨fuel, hf⟩ := h
  obtain ⟨xs, m, rfl, hx, hl, hn, he⟩ := DataW.trod_struct Tryz.underlying27 hf
  rw [cellsT26] at hsz
  match xs, hn with
  | [x0, x1, x2], _ =>
    have e0 := he 0 _ rfl
    have e1 := he 1 _ rfl
    have e2 := he 2 _ rfl
    obtain ⟨cs⟩ := cs
    match cs, hsz with
    | [c0, c1, c2, c3, c4, c5], _ =>
      simp [Value.cells, cellsT22, cellsT3, cellsT24] at e0 e1 e2
      obtain ⟨x, rfl, wx⟩ := open_word e0
      obtain ⟨kk, hk, _, wk⟩ := DataW.trod_int Tryz.underlying3 e1
      obtain ⟨a, b, p, q, rfl, rfl, rfl, rfl, wa⟩ := open_four e2
      simp at hk
      subst hk
      exact ⟨x, kk, a, b, p, q, rfl, wx, bounds_i64 wk, wa.1, wa.2.1, wa.2.2.1, wa.2.2.2⟩
end

set_option maxRecDepth 100000 in
theorem put_contract (H : Type) (enc : TypeId × Value → H) (W : World) (base : Nat) (args : Array Value) (ds gs : List (DataW H)) (before : List MemPlace)
    (hval : ∀ (j : Nat) t v, Tryz.f3.params[j]? = some t → args[j]? = some v → Value.okWide Tryz.prog W .any base t v)
    (hW : DataW.Whole enc Tryz.prog Tryz.f3.params.toList Rows.numsPutSpec.vars false W args.toList ds gs before)
    (hsz : (DataW.weightsEach Tryz.prog (Tryz.f3.params.toList ++ Rows.numsPutSpec.plain.varTypes Tryz.prog) (ds ++ gs)).all (· ≤ reachBytes) = true) :
    Calls Tryz.prog 3 args W fun e W' => ∃ v, e = .returned v ∧ Rows.numsPutSpec.post enc Tryz.prog Tryz.f3 false true false false W args v W' := by
  have hW' := hW
  obtain ⟨p, q, hA0, hV, rfl, hfz, hnd⟩ := hW
  have hA : DataW.TrodAll enc Tryz.prog W 0 (fun _ => true) true Tryz.f3.params.toList args.toList ds p := hA0
  rw [Tryz.params3] at hA hval hsz
  obtain ⟨v0, v1, v2, d0, d1, d2, p0, p1, p2, rfl, rfl, rfl, h0, h1, h2⟩ := trodAll_three hA
  obtain ⟨rfl, rfl⟩ := trodVars_none hV
  have t0 := h0
  have t1 := h1
  have t2 := h2
  have lt0 : ∀ x ∈ p0, x.block < W.heap.size := by obtain ⟨m, hm⟩ := t0; exact DataW.trod_lt m _ _ _ hm
  have lt1 : ∀ x ∈ p1, x.block < W.heap.size := by obtain ⟨m, hm⟩ := t1; exact DataW.trod_lt m _ _ _ hm
  have lt2 : ∀ x ∈ p2, x.block < W.heap.size := by obtain ⟨m, hm⟩ := t2; exact DataW.trod_lt m _ _ _ hm
  obtain ⟨fuel0, h0⟩ := h0
  obtain ⟨A0, n0, c0, l0, hcs0, i0, hwt0⟩ := open_bytes h0
  obtain rfl := sl_of hcs0 (hval 0 22 v0 rfl rfl)
  have s0 := hwt0 (weigh hsz (j := 0) rfl rfl)
  obtain ⟨fuel1, h1⟩ := h1
  obtain ⟨A1, n1, c1, l1, hcs1, i1, hwt1⟩ := open_bytes h1
  obtain rfl := sl_of hcs1 (hval 1 22 v1 rfl rfl)
  have s1 := hwt1 (weigh hsz (j := 1) rfl rfl)
  obtain ⟨x, kk, a, b, pp, qq, rfl, wx, wk, wa, wb, wp, wq⟩ := open_given (hval 2 27 v2 rfl rfl) h2
  clear hA0
  refine (put_walk A0 A1 n0 c0 n1 c1 l0 l1 x kk a b pp qq W (by omega) (by omega) i0.2.2.1 i1.2.2.1 i0.2.2.2.1 i1.2.2.2.1 wx wa wb wp wq).mono fun e W' ⟨he, bel⟩ => ?_
  subst he
  exact ⟨_, rfl, _, _, _, [], _, [], hW', trodAll_mk1 (shut_bool Tryz.underlying4 _), (trodAll_cons_mk (Below.trod laidOut (by kernel_rfl) (of_decide_eq_true (by kernel_rfl)) t0 bel lt0) (trodAll_cons_mk (Below.trod laidOut (by kernel_rfl) (of_decide_eq_true (by kernel_rfl)) t1 bel lt1) (trodAll_cons_mk (Below.trod laidOut (by kernel_rfl) (of_decide_eq_true (by kernel_rfl)) t2 bel lt2) trodAll_mk0))), rfl, bel.frame _, fun h => by cases h⟩

set_option maxRecDepth 100000 in
theorem put_laid (os : Os) : laidMet Tryz.prog Rows.numsPutRow.laid ((laidWorld os).forCall (fun _ _ => 0) ⟨#[], #[.slice none 0 0, .slice none 0 0, .agg #[.int .u64 0, .int .i64 0, .int .u64 0, .int .u64 0, .int .u64 0, .int .u64 0]], []⟩).memory :=
  laidMet_of_run' 8 (by kernel_rfl) (by kernel_rfl)
set_option maxRecDepth 100000 in
theorem put_reads (os : Os) {H : Type} (enc : TypeId × Value → H) : ∃ places, DataW.whole enc Tryz.prog ((laidWorld os).forCall (fun _ _ => 0) ⟨#[], #[.slice none 0 0, .slice none 0 0, .agg #[.int .u64 0, .int .i64 0, .int .u64 0, .int .u64 0, .int .u64 0, .int .u64 0]], []⟩).memory Tryz.f3.params.toList Rows.numsPutSpec.vars false #[Value.slice none 0 0, .slice none 0 0, .agg #[.int .u64 0, .int .i64 0, .int .u64 0, .int .u64 0, .int .u64 0, .int .u64 0]].toList 8 = some ([.nil, .nil, .agg [.lit (.int .u64 0), .lit (.int .i64 0), .agg [.lit (.int .u64 0), .lit (.int .u64 0), .lit (.int .u64 0), .lit (.int .u64 0)]]], [], places) :=
  ⟨[], by kernel_rfl⟩

set_option maxRecDepth 100000 in
theorem put_lifted (os : Os) (started : os.Started) (H : Type) (enc : TypeId × Value → H) (F : Stop.Interp) :
    ReturnsInHanded {} Tryz.checked os 3 .any ((OpenSpec.ofChange Rows.numsPutSpec).preRow enc Tryz.prog Tryz.f3 Rows.numsPutRow.domain false Rows.numsPutRow.laid) (((OpenSpec.ofChange Rows.numsPutSpec).at F).post enc Tryz.prog Tryz.f3 false true false false) := by
  obtain ⟨places, hx⟩ := put_reads os enc
  refine returnsInHanded_of_row (C := Tryz.checked) (s := OpenSpec.ofChange Rows.numsPutSpec) own started (by kernel_rfl) Tryz.func3
    (witness_row_at (enc := enc) (C := Tryz.checked) false (laidWorld os) #[.slice none 0 0, .slice none 0 0, .agg #[.int .u64 0, .int .i64 0, .int .u64 0, .int .u64 0, .int .u64 0, .int .u64 0]] rfl (by kernel_rfl) (by kernel_rfl) (by kernel_rfl)
      (OpenSpec.preRow_of_cond 8 hx (by kernel_rfl) (fun k hk => by cases hk) (by kernel_rfl) (put_laid os))) ?_
  intro W base args ds gs before hval hW _ _ hsz _ _ _
  exact put_contract H enc W base args ds gs before hval hW hsz

set_option maxRecDepth 100000 in
theorem numsPut_said : Rows.NumsPutSaid :=
  OpenClaim.holds_of_cond 3 Tryz.f3 rfl rfl rfl rfl rfl rfl rfl ⟨rfl, rfl, rfl, rfl, rfl⟩ rfl rfl rfl rfl rfl (by kernel_rfl) Tryz.func3 (by kernel_rfl)
    (of_decide_eq_true (by kernel_rfl)) (by unfold Func.isWrapper; first | (rw [if_pos (by decide +kernel)]; kernel_rfl) | (rw [if_neg (by decide +kernel)]; exact ⟨rfl, rfl⟩))
    (fun os started H enc _ F => by rw [OpenClaim.pre_eq_preRow]; exact put_lifted os started H enc F)

set_option maxRecDepth 100000 in
theorem put_plain (f : FuncId) (fn : Func) (hf : Tryz.pinned.checked.prog.funcNamed "balefire/balefirelaw01.NumsPut" = some f) (hfn : Tryz.pinned.checked.prog.funcs[f]? = some fn) :
    false = Tryz.pinned.checked.prog.looks [] ∧ ∀ (j : Nat) t, fn.params[j]? = some t → Tryz.pinned.checked.prog.wantsStandIn t = false := by
  obtain rfl : f = 3 := Option.some.inj ((show Tryz.prog.funcNamed "balefire/balefirelaw01.NumsPut" = some 3 by kernel_rfl).symm.trans hf) |>.symm
  obtain rfl : fn = Tryz.f3 := (Option.some.inj (Tryz.func3.symm.trans hfn)).symm
  refine ⟨by kernel_rfl, fun j t ht => ?_⟩
  rw [Tryz.params3] at ht
  obtain rfl | rfl : t = 22 ∨ t = 27 := by have := Array.mem_of_getElem? ht; simp at this; omega
  · exact (show Tryz.prog.wantsStandIn 22 = false by kernel_rfl)
  · exact (show Tryz.prog.wantsStandIn 27 = false by kernel_rfl)

set_option maxRecDepth 100000 in
theorem numsPut_card : Rows.NumsPutCardSaid :=
  Claim7.holds_tied_plain_at .later [] _ _ _ _ numsPut_said (fun _ h => by cases h) (by kernel_rfl) (fun _ h => by cases h) numsPut_row_tie rfl ⟨rfl, rfl⟩ (by kernel_rfl) rfl put_plain (by kernel_rfl)
#print axioms numsPut_card
end Go.Proofs.YtjleelpnkkeakaaGreatDoor
