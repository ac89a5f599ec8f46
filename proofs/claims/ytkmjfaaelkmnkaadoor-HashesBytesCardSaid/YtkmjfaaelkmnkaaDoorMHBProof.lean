/-
  HashesBytes, for every input: it answers true, and its arguments read as they did, as a card whose listed variables are tied to the program's text.
  Conditions: the listed package-level variables start as the text lays them (the given tie); the tie speaks of the seat's pruned copy of the project. No condition on the arguments.
-/
import Derived.Test.YtkmjfaaelkmnkaaDoorCards
import Derived.Test.YtkmjfaaelkmnkaaDoorTie
import Derived.Deep.DeepHandedRow
import Derived.Lib.LaidTab
import Derived.ChangeMaps5
import Derived.Test.YtkmjfaaelkmnkaaDoorMLawHBytes
import Derived.Test.YtkmjfaaelkmnkaaDoorMNuShort
import Derived.Test.YtkmjfaaelkmnkaaDoorMOpenR
import Derived.Test.YtkmjfaaelkmnkaaDoorMOpenS
import Derived.Test.YtkmjfaaelkmnkaaDoorMTabs
namespace Go.Proofs.YtkmjfaaelkmnkaaDoor
set_option linter.unusedSimpArgs false
set_option linter.unusedVariables false
open Go.ChangeShapes Go.WideShapes Go.ChangeAt Go.RowKit

set_option maxRecDepth 100000 in
theorem hashesBytes_contract (H : Type) (enc : TypeId × Value → H) (W : World) (base : Nat) (args : Array Value) (ds gs : List (DataW H)) (before : List MemPlace)
    (hval : ∀ (j : Nat) t v, Tryd.f5.params[j]? = some t → args[j]? = some v → Value.okWide Tryd.prog W .any base t v)
    (hW : DataW.Whole enc Tryd.prog Tryd.f5.params.toList Rows.hashesBytesSpec.vars false W args.toList ds gs before)
    (hsz : (DataW.weightsEach Tryd.prog (Tryd.f5.params.toList ++ Rows.hashesBytesSpec.plain.varTypes Tryd.prog) (ds ++ gs)).all (· ≤ reachBytes) = true)
    (hlaid : laidMet Tryd.prog Rows.hashesBytesRow.laid W) :
    Calls Tryd.prog 5 args W fun e W' => ∃ v, e = .returned v ∧ Rows.hashesBytesSpec.post enc Tryd.prog Tryd.f5 false true false false W args v W' := by
  have hW' := hW
  obtain ⟨p, q, hA0, hV, rfl, hfz, hnd⟩ := hW
  have hA : DataW.TrodAll enc Tryd.prog W 0 (fun _ => true) true Tryd.f5.params.toList args.toList ds p := hA0
  rw [Tryd.params5] at hA hval hsz
  obtain ⟨v0, v1, v2, d0, d1, d2, p0, p1, p2, rfl, rfl, rfl, h0, h1, h2⟩ := trodAll_three hA
  obtain ⟨rfl, rfl⟩ := trodVars_none hV
  have t0 := h0
  have lt0 : ∀ x ∈ p0, x.block < W.heap.size := by obtain ⟨m, hm⟩ := t0; exact DataW.trod_lt m _ _ _ hm
  obtain ⟨s_0, u_0, zz0, zy0, rfl⟩ := open_strs (hval 0 45 v0 rfl rfl) h0
  have t1 := h1
  have lt1 : ∀ x ∈ p1, x.block < W.heap.size := by obtain ⟨m, hm⟩ := t1; exact DataW.trod_lt m _ _ _ hm
  obtain ⟨fuel1, h1⟩ := h1
  obtain ⟨A1, n1, c1, RA1, RL1, RC1, RB1, hcs1, i1, s1, nl1⟩ := open_rows h1 (weigh hsz (j := 1) rfl rfl)
  obtain rfl := slr_of hcs1 (hval 1 34 v1 rfl rfl)
  have t2 := h2
  have lt2 : ∀ x ∈ p2, x.block < W.heap.size := by obtain ⟨m, hm⟩ := t2; exact DataW.trod_lt m _ _ _ hm
  obtain ⟨fuel2, h2⟩ := h2
  obtain ⟨A2, n2, c2, RA2, RL2, RC2, RB2, hcs2, i2, s2, nl2⟩ := open_rows h2 (weigh hsz (j := 2) rfl rfl)
  obtain rfl := slr_of hcs2 (hval 2 34 v2 rfl rfl)
  have T : Tabs W := tabs_of hlaid
  clear hA0
  refine (hashesBytes_walk s_0 u_0 A1 n1 c1 RA1 RL1 RC1 RB1 A2 n2 c2 RA2 RL2 RC2 RB2 W zz0 zy0 s1 s2 i1 i2 T).mono fun e W' ⟨he, bel⟩ => ?_
  subst he
  exact ⟨_, rfl, _, _, _, [], _, [], hW', trodAll_mk1 (shut_bool Tryd.underlying4 _), (trodAll_cons_mk (Below.trod laidOut (by kernel_rfl) (of_decide_eq_true (by kernel_rfl)) t0 bel lt0) (trodAll_cons_mk (Below.trod laidOut (by kernel_rfl) (of_decide_eq_true (by kernel_rfl)) t1 bel lt1) (trodAll_cons_mk (Below.trod laidOut (by kernel_rfl) (of_decide_eq_true (by kernel_rfl)) t2 bel lt2) trodAll_mk0))), rfl, bel.frame _, fun h => by cases h⟩

set_option maxRecDepth 100000 in
theorem hashesBytes_laid (os : Os) : laidMet Tryd.prog Rows.hashesBytesRow.laid ((laidWorld os).forCall (fun _ _ => 0) ⟨#[], #[.agg #[.string ⟨#[]⟩, .string ⟨#[]⟩], .slice none 0 0, .slice none 0 0], []⟩).memory :=
  laidMet_of_run' 8 (by kernel_rfl) (by kernel_rfl)
set_option maxRecDepth 100000 in
theorem hashesBytes_reads (os : Os) {H : Type} (enc : TypeId × Value → H) : ∃ places, DataW.whole enc Tryd.prog ((laidWorld os).forCall (fun _ _ => 0) ⟨#[], #[.agg #[.string ⟨#[]⟩, .string ⟨#[]⟩], .slice none 0 0, .slice none 0 0], []⟩).memory Tryd.f5.params.toList Rows.hashesBytesSpec.vars false #[Value.agg #[.string ⟨#[]⟩, .string ⟨#[]⟩], .slice none 0 0, .slice none 0 0].toList 8 = some ([.agg [.lit (.string []), .lit (.string [])], .nil, .nil], [], places) :=
  ⟨[], by kernel_rfl⟩

set_option maxRecDepth 100000 in
theorem hashesBytes_lifted (os : Os) (started : os.Started) (H : Type) (enc : TypeId × Value → H) (F : Stop.Interp) :
    ReturnsInHanded {} Tryd.checked os 5 .any ((OpenSpec.ofChange Rows.hashesBytesSpec).preRow enc Tryd.prog Tryd.f5 Rows.hashesBytesRow.domain false Rows.hashesBytesRow.laid) (((OpenSpec.ofChange Rows.hashesBytesSpec).at F).post enc Tryd.prog Tryd.f5 false true false false) := by
  obtain ⟨places, hx⟩ := hashesBytes_reads os enc
  refine returnsInHanded_of_row (C := Tryd.checked) (s := OpenSpec.ofChange Rows.hashesBytesSpec) own started (by kernel_rfl) Tryd.func5
    (witness_row_at (enc := enc) (C := Tryd.checked) false (laidWorld os) #[.agg #[.string ⟨#[]⟩, .string ⟨#[]⟩], .slice none 0 0, .slice none 0 0] rfl (by kernel_rfl) (by kernel_rfl) (by kernel_rfl)
      (OpenSpec.preRow_of_cond 8 hx (by kernel_rfl) (fun k hk => by cases hk) (by kernel_rfl) (hashesBytes_laid os))) ?_
  intro W base args ds gs before hval hW _ _ hsz hl1 hl2 hl3
  exact hashesBytes_contract H enc W base args ds gs before hval hW hsz hl1

set_option maxRecDepth 100000 in
theorem hashesBytes_said : Rows.HashesBytesSaid :=
  OpenClaim.holds_of_cond 5 Tryd.f5 rfl rfl rfl rfl rfl rfl rfl ⟨rfl, rfl, rfl, rfl, rfl⟩ rfl rfl rfl rfl rfl (by kernel_rfl) Tryd.func5 (by kernel_rfl)
    (of_decide_eq_true (by kernel_rfl)) (by unfold Func.isWrapper; first | (rw [if_pos (by decide +kernel)]; kernel_rfl) | (rw [if_neg (by decide +kernel)]; exact ⟨rfl, rfl⟩))
    (fun os started H enc _ F => by rw [OpenClaim.pre_eq_preRow]; exact hashesBytes_lifted os started H enc F)

set_option maxRecDepth 100000 in
theorem hashesBytes_plain (f : FuncId) (fn : Func) (hf : Tryd.pinned.checked.prog.funcNamed "balefire/balefirelaw06.HashesBytes" = some f) (hfn : Tryd.pinned.checked.prog.funcs[f]? = some fn) :
    false = Tryd.pinned.checked.prog.looks [] ∧ ∀ (j : Nat) t, fn.params[j]? = some t → Tryd.pinned.checked.prog.wantsStandIn t = false := by
  obtain rfl : f = 5 := Option.some.inj ((show Tryd.prog.funcNamed "balefire/balefirelaw06.HashesBytes" = some 5 by kernel_rfl).symm.trans hf) |>.symm
  obtain rfl : fn = Tryd.f5 := (Option.some.inj (Tryd.func5.symm.trans hfn)).symm
  refine ⟨by kernel_rfl, fun j t ht => ?_⟩
  rw [Tryd.params5] at ht
  obtain rfl | rfl | rfl : t = 45 ∨ t = 34 ∨ t = 34 := by simpa using Array.mem_of_getElem? ht
  · exact (show Tryd.prog.wantsStandIn 45 = false by kernel_rfl)
  · exact (show Tryd.prog.wantsStandIn 34 = false by kernel_rfl)
  · exact (show Tryd.prog.wantsStandIn 34 = false by kernel_rfl)

set_option maxRecDepth 100000 in
theorem hashesBytes_card : Rows.HashesBytesCardSaid :=
  Claim7.holds_tied_plain_at .later [] _ _ _ _ hashesBytes_said (fun _ h => by cases h) (by kernel_rfl) (fun _ h => by cases h) hashesBytes_row_tie rfl ⟨rfl, rfl⟩ (by kernel_rfl) rfl hashesBytes_plain (by kernel_rfl)
#print axioms hashesBytes_card
end Go.Proofs.YtkmjfaaelkmnkaaDoor
