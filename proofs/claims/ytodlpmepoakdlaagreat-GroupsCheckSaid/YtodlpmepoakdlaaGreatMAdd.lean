import Derived.WalkKit
import Derived.Below
import Derived.Deep.QuietTactic
import Derived.BigQuiet
import Derived.Test.YtodlpmepoakdlaaGreatRows
import Derived.ProofKit
import Derived.OpenShut
import Derived.ShutString
import Derived.ChangeOld
import Derived.SizedLaws
import Derived.Laws.Externs
import Derived.Lib.Mul64
import Derived.Laws.Bits64b
import Derived.OwnWalk
import Derived.Deep.Draws
import Derived.WalkSpells
import Derived.Laws.OwnMore
import Derived.Laws.MakeOwn
import Derived.Maps.AppendAt
import Derived.Lib.Hide
import Derived.Deep.DrawnRows
import Derived.Deep.RegionWith
import Derived.RegionTactic
import Derived.BigRegion
import Derived.StillTailTactics
import Derived.Deep.RegionHeld3
import Derived.Deep.RegionLaw
namespace Go.Proofs.YtodlpmepoakdlaaGreat
set_option maxRecDepth 100000
open Go.RowKit
set_option linter.unusedSimpArgs false
set_option linter.unusedVariables false

theorem Jfg {p : Prop} (h : p) : Go.RowKit.Hid p := Lib.hid h
def wd (X i : Nat) : Nat := X / 18446744073709551616 ^ i % 18446744073709551616
abbrev num (X : Nat) : Value := .agg #[.int .u64 (wd X 0), .int .u64 (wd X 1), .int .u64 (wd X 2), .int .u64 (wd X 3)]
abbrev ncs (X : Nat) : Array Value := #[.int .u64 (wd X 0), .int .u64 (wd X 1), .int .u64 (wd X 2), .int .u64 (wd X 3)]

theorem Kw (X i : Nat) : wd X i < 18446744073709551616 := Nat.mod_lt _ (by decide)
theorem Xd (X : Nat) (h : X < 2 ^ 256) : X = wd X 0 + 18446744073709551616 * wd X 1 + 340282366920938463463374607431768211456 * wd X 2 + 6277101735386680763835789423207666416102355444464034512896 * wd X 3 := by
 unfold wd; omega
theorem wd_of (r0 r1 r2 r3 : Nat) (h0 : r0 < 18446744073709551616) (h1 : r1 < 18446744073709551616) (h2 : r2 < 18446744073709551616) (h3 : r3 < 18446744073709551616) (Z : Nat)
  (hZ : Z = r0 + 18446744073709551616 * r1 + 340282366920938463463374607431768211456 * r2 + 6277101735386680763835789423207666416102355444464034512896 * r3) :
  wd Z 0 = r0 ∧ wd Z 1 = r1 ∧ wd Z 2 = r2 ∧ wd Z 3 = r3 := by
 unfold wd; omega
theorem Jbf (r0 r1 r2 r3 : Nat) (h0 : r0 < 18446744073709551616) (h1 : r1 < 18446744073709551616) (h2 : r2 < 18446744073709551616) (h3 : r3 < 18446744073709551616) (Z : Nat)
  (hZ : Z = r0 + 18446744073709551616 * r1 + 340282366920938463463374607431768211456 * r2 + 6277101735386680763835789423207666416102355444464034512896 * r3) :
  (.agg #[.int .u64 (r0 : Nat), .int .u64 (r1 : Nat), .int .u64 (r2 : Nat), .int .u64 (r3 : Nat)] : Value) = num Z := by
 obtain ⟨e0, e1, e2, e3⟩ := wd_of r0 r1 r2 r3 h0 h1 h2 h3 Z hZ
 unfold num; rw [e0, e1, e2, e3]
theorem wd_eq (X Y : Nat) (hX : X < 2 ^ 256) (hY : Y < 2 ^ 256) : (wd X 0 = wd Y 0 ∧ wd X 1 = wd Y 1 ∧ wd X 2 = wd Y 2 ∧ wd X 3 = wd Y 3) ↔ X = Y := by
 constructor
 ·intro h
  have := Xd X hX
  have := Xd Y hY
  omega
 ·rintro rfl; exact ⟨rfl, rfl, rfl, rfl⟩

theorem Vr (x y c : Nat) (hx : x < 18446744073709551616) (hy : y < 18446744073709551616) (hc : c ≤ 1) : ∃ s d : Nat, s < 18446744073709551616 ∧ d ≤ 1 ∧ x + y + c = s + 18446744073709551616 * d ∧ s = (x + y + c) % 18446744073709551616 ∧ d = (x + y + c) / 18446744073709551616 :=
 ⟨_, _, by omega, by omega, by omega, rfl, rfl⟩
theorem Wh (x y c : Nat) (hx : x < 18446744073709551616) (hy : y < 18446744073709551616) (hc : c ≤ 1) : ∃ s d : Nat, s < 18446744073709551616 ∧ d ≤ 1 ∧ x + 18446744073709551616 * d = s + y + c ∧ s = (x + 18446744073709551616 - y - c) % 18446744073709551616 ∧ d = (if x < y + c then 1 else 0) := by
 by_cases h : x < y + c
 ·exact ⟨_, _, by omega, by rw [if_pos h]; omega, by rw [if_pos h]; omega, rfl, rfl⟩
 ·exact ⟨_, _, by omega, by rw [if_neg h]; omega, by rw [if_neg h]; omega, rfl, rfl⟩

theorem bel_tr {a b c : World} (h : Below a.heap.size a b) (k : Below b.heap.size b c) : Below a.heap.size a c := h.trans (k.mono h.size)
theorem Vk {W w : World} {a : Addr} {v : Value} (hb : Below W.heap.size W w) (h : W.cell? a = some v) : w.cell? a = some v := (hb.cell (World.block_lt_of_cell? W a h)).trans h
theorem gr_alloc {a b : World} (h : Below a.heap.size a b) (o : Obj) : Below a.heap.size a (b.alloc o) := h.alloc h.size o
theorem Ue {a b : World} (h : Below a.heap.size a b) (n : Nat) : Below a.heap.size a (b.drewN n) := ⟨h.os, h.tape, h.output, h.size, h.block⟩
open Go.ChangeShapes Go.WideShapes Go.ChangeAt Go.RowKit
theorem own : ownKnob Tryz.prog.godebug = none := by kernel_rfl
theorem Jdr : laidOutB Tryz.prog = true := by kernel_rfl
theorem Tryz.cells24 : Tryz.prog.cellsOf 24 = 4 := by kernel_rfl
theorem Tryz.cells22 : Tryz.prog.cellsOf 22 = 1 := by kernel_rfl

section
variable {H : Type} {enc : TypeId × Value → H} {w : World} {held : Bool}

theorem Jao {fuel : Nat} {c : Value} {x : DataW H × List MemPlace} (h : DataW.trod enc Tryz.prog w 0 (fun _ => true) held fuel 22 [c] = some x) :
  ∃ n : Nat, c = .int .u64 (n : Int) ∧ n < 18446744073709551616 := by
 obtain ⟨n, e, _, hw⟩ := DataW.trod_int Tryz.underlying22 h
 have bd := bounds_u64 hw
 simp at e
 exact ⟨n.toNat, by rw [e, Int.toNat_of_nonneg bd.1], by omega⟩

theorem Vy {fuel : Nat} {c0 c1 c2 c3 : Value} {x : DataW H × List MemPlace} (h : DataW.trod enc Tryz.prog w 0 (fun _ => true) held fuel 24 [c0, c1, c2, c3] = some x) :
  ∃ X : Nat, X < 2 ^ 256 ∧ c0 = .int .u64 (wd X 0) ∧ c1 = .int .u64 (wd X 1) ∧ c2 = .int .u64 (wd X 2) ∧ c3 = .int .u64 (wd X 3) := by
 obtain ⟨xs, m, rfl, hx, hl, hn, he⟩ := DataW.trod_array Tryz.underlying24 h
 rw [Tryz.cells22] at he
 match xs, hn with
 | [x0, x1, x2, x3], _ =>
  have e0 := he 0 (by omega)
  have e1 := he 1 (by omega)
  have e2 := he 2 (by omega)
  have e3 := he 3 (by omega)
  simp at e0 e1 e2 e3
  obtain ⟨a, rfl, wa⟩ := Jao e0
  obtain ⟨b, rfl, wb⟩ := Jao e1
  obtain ⟨p, rfl, wp⟩ := Jao e2
  obtain ⟨q, rfl, wq⟩ := Jao e3
  obtain ⟨X, hX⟩ : ∃ X, X = a + 18446744073709551616 * b + 340282366920938463463374607431768211456 * p + 6277101735386680763835789423207666416102355444464034512896 * q := ⟨_, rfl⟩
  obtain ⟨f0, f1, f2, f3⟩ := wd_of a b p q wa wb wp wq X hX
  exact ⟨X, by omega, by rw [f0], by rw [f1], by rw [f2], by rw [f3]⟩

theorem okWide_arr {base n : Nat} {t e : TypeId} {v : Value} (ht : Tryz.prog.underlying t = some (.array n e)) (h : Value.okWide Tryz.prog w .any base t v) : ∃ cs, v = .agg cs ∧ cs.size = Tryz.prog.cellsOf t := by
 simp only [Value.okWide, ht] at h
 obtain ⟨cs, h1, h2, _⟩ := h
 exact ⟨cs, h1, h2⟩

end
open Go.RowKit Go.Lib
def sub64E : Array Value → Sem Value := fun args => do
 let (x, y, b) ← Extern.MathBitsCarry.three "Sub64" args
 pure (Extern.MathBitsCarry.pair ((x + Extern.MathBitsCarry.m64 - y - b) % Extern.MathBitsCarry.m64) (if x < y + b then 1 else 0))

theorem Jcm (x y c s d : Nat) (hc : c ≤ 1) (hs : s = (x + y + c) % 18446744073709551616) (hd : d = (x + y + c) / 18446744073709551616) (w : World) :
  (callFunc 95 #[.int .u64 x, .int .u64 y, .int .u64 c]).run Tryz.prog w = .ok (.value (.tuple #[.int .u64 s, .int .u64 d])) w := by
 rw [run_callFunc_extern Tryz.func95 (by kernel_rfl) (by kernel_rfl) (by kernel_rfl) (e := add64Entry) (by kernel_rfl), run_add64 x y c (by omega) (by omega) (by omega) (by omega)]
 simp only [Result.andThen]
 subst hs hd
 congr 5 <;> omega

theorem Jdd (x y c s d : Nat) (hc : c ≤ 1) (hs : s = (x + 18446744073709551616 - y - c) % 18446744073709551616) (hd : d = if x < y + c then 1 else 0) (w : World) :
  (callFunc 57 #[.int .u64 x, .int .u64 y, .int .u64 c]).run Tryz.prog w = .ok (.value (.tuple #[.int .u64 s, .int .u64 d])) w := by
 rw [run_callFunc_extern Tryz.func57 (by kernel_rfl) (by kernel_rfl) (by kernel_rfl) (e := sub64E) (by kernel_rfl)]
 subst hs hd
 have : c = 0 ∨ c = 1 := by omega
 rcases this with rfl | rfl <;> rfl

namespace M64
theorem maskN (a : Nat) (ha : a < 18446744073709551616) : bits .and .u64 (a : Int) 4294967295 = ((a % 4294967296 : Nat) : Int) := by
 have h := bits_and_u64_nat a 4294967295 ha (by omega)
 have e : a &&& 4294967295 = a % 4294967296 := Nat.and_two_pow_sub_one_eq_mod a 32
 rw [e] at h
 exact h
theorem divN (a : Nat) : (a : Int) / 4294967296 = ((a / 4294967296 : Nat) : Int) := by omega
theorem mulN (a b : Nat) : (a : Int) * (b : Int) = ((a * b : Nat) : Int) := (Int.natCast_mul a b).symm
theorem addN (a b : Nat) : (a : Int) + (b : Int) = ((a + b : Nat) : Int) := (Int.natCast_add a b).symm
theorem wrapN (a : Nat) (ha : a < 18446744073709551616) : IntKind.u64.wrap (a : Int) = (a : Int) := by rw [IntKind.wrap_u64]; omega
theorem wrapM (a : Nat) : IntKind.u64.wrap (a : Int) = ((a % 18446744073709551616 : Nat) : Int) := by rw [IntKind.wrap_u64]; omega
end M64

set_option maxHeartbeats 1000000 in
theorem mul64 (x y : Nat) (hx : x < 18446744073709551616) (hy : y < 18446744073709551616) (w : World) :
  Calls Tryz.prog 62 #[.int .u64 x, .int .u64 y] w fun e w' => e = .returned (.tuple #[.int .u64 ((x * y / 18446744073709551616 : Nat) : Int), .int .u64 ((x * y % 18446744073709551616 : Nat) : Int)]) ∧ w = w' := by
 obtain ⟨bd, bt, bw, hhi⟩ := Lib.mul64_hi x y hx hy
 have ba := Lib.half_mul_le (a := x / 4294967296) (b := y / 4294967296) (by omega) (by omega)
 have bb := Lib.half_mul_le (a := x / 4294967296) (b := y % 4294967296) (by omega) (by omega)
 have bc := Lib.half_mul_le (a := x % 4294967296) (b := y / 4294967296) (by omega) (by omega)
 have ba' : x / 4294967296 * (y / 4294967296) < 18446744073709551616 := by omega
 have bb' : x / 4294967296 * (y % 4294967296) < 18446744073709551616 := by omega
 have bc' : x % 4294967296 * (y / 4294967296) < 18446744073709551616 := by omega
 have bh1 : x / 4294967296 * (y / 4294967296) + (x / 4294967296 * (y % 4294967296) + x % 4294967296 * (y % 4294967296) / 4294967296) / 4294967296 < 18446744073709551616 := by omega
 have bh : x / 4294967296 * (y / 4294967296) + (x / 4294967296 * (y % 4294967296) + x % 4294967296 * (y % 4294967296) / 4294967296) / 4294967296 + ((x / 4294967296 * (y % 4294967296) + x % 4294967296 * (y % 4294967296) / 4294967296) % 4294967296 + x % 4294967296 * (y / 4294967296)) / 4294967296 < 18446744073709551616 := by omega
 go_enter Tryz.func62, Tryz.ntmps62
 go_wp2
 simp only [M64.maskN x hx, M64.maskN y hy, M64.divN, M64.mulN, M64.addN, M64.wrapN _ bd, M64.wrapN _ bb', M64.wrapN _ bt, M64.maskN _ bt, M64.wrapN _ bc', M64.wrapN _ bw, M64.wrapN _ ba', M64.wrapN _ bh1, M64.wrapN _ bh, M64.wrapM (x * y)]
 rw [hhi]
 go_ret2
 exact ⟨rfl, rfl⟩
set_option maxHeartbeats 1000000 in
theorem add_words (a0 a1 a2 a3 b0 b1 b2 b3 : Nat) (w : World) (s0 s1 s2 s3 c0 c1 c2 c3 : Nat)
  (h0 : ∀ w, (callFunc 95 #[.int .u64 a0, .int .u64 b0, .int .u64 0]).run Tryz.prog w = .ok (.value (.tuple #[.int .u64 s0, .int .u64 c0])) w)
  (h1 : ∀ w, (callFunc 95 #[.int .u64 a1, .int .u64 b1, .int .u64 c0]).run Tryz.prog w = .ok (.value (.tuple #[.int .u64 s1, .int .u64 c1])) w)
  (h2 : ∀ w, (callFunc 95 #[.int .u64 a2, .int .u64 b2, .int .u64 c1]).run Tryz.prog w = .ok (.value (.tuple #[.int .u64 s2, .int .u64 c2])) w)
  (h3 : ∀ w, (callFunc 95 #[.int .u64 a3, .int .u64 b3, .int .u64 c2]).run Tryz.prog w = .ok (.value (.tuple #[.int .u64 s3, .int .u64 c3])) w) :
  Calls Tryz.prog 82 #[.agg #[.int .u64 a0, .int .u64 a1, .int .u64 a2, .int .u64 a3], .agg #[.int .u64 b0, .int .u64 b1, .int .u64 b2, .int .u64 b3]] w fun e w' =>
   e = .returned (.tuple #[.agg #[.int .u64 s0, .int .u64 s1, .int .u64 s2, .int .u64 s3], .int .u64 c3]) ∧ Below w.heap.size w w' := by
 go_enter Tryz.func82, Tryz.ntmps82
 go_wp2
 refine wp_loop_rounds 6 ?_
 rw [rounds_succ]
 go_wp2
 go_region_held3 (fun w' => w'.cell? ⟨w.heap.size, 0, none⟩ = some (.int .u64 a0) ∧ w'.cell? ⟨w.heap.size + 1, 0, none⟩ = some (.int .u64 b0)) (go_keep) ((simp only [h0]))
 go_wp2
 rw [rounds_succ]
 go_wp2
 go_region_held3 (fun w' => w'.cell? ⟨w.heap.size, 1, none⟩ = some (.int .u64 a1) ∧ w'.cell? ⟨w.heap.size + 1, 1, none⟩ = some (.int .u64 b1)) (go_keep) ((simp only [h1]))
 go_wp2
 rw [rounds_succ]
 go_wp2
 go_region_held3 (fun w' => w'.cell? ⟨w.heap.size, 2, none⟩ = some (.int .u64 a2) ∧ w'.cell? ⟨w.heap.size + 1, 2, none⟩ = some (.int .u64 b2)) (go_keep) ((simp only [h2]))
 go_wp2
 rw [rounds_succ]
 go_wp2
 go_region_held3 (fun w' => w'.cell? ⟨w.heap.size, 3, none⟩ = some (.int .u64 a3) ∧ w'.cell? ⟨w.heap.size + 1, 3, none⟩ = some (.int .u64 b3)) (go_keep) ((simp only [h3]))
 go_wp2
 rw [rounds_succ]
 go_wp2
 exact bodyPost_ret (v := .tuple #[.agg #[.int .u64 s0, .int .u64 s1, .int .u64 s2, .int .u64 s3], .int .u64 c3]) (by simp [results, Tryz.results82, go_sem]) rfl
  ⟨rfl, by repeat (first | exact Below.refl _ _ | refine gr_alloc ?_ _ | refine Below.drew ?_ | refine Ue ?_ _ | refine bel_tr ?_ (by assumption))⟩

set_option maxHeartbeats 1000000 in
theorem sub_words (a0 a1 a2 a3 b0 b1 b2 b3 : Nat) (w : World) (s0 s1 s2 s3 c0 c1 c2 c3 : Nat)
  (h0 : ∀ w, (callFunc 57 #[.int .u64 a0, .int .u64 b0, .int .u64 0]).run Tryz.prog w = .ok (.value (.tuple #[.int .u64 s0, .int .u64 c0])) w)
  (h1 : ∀ w, (callFunc 57 #[.int .u64 a1, .int .u64 b1, .int .u64 c0]).run Tryz.prog w = .ok (.value (.tuple #[.int .u64 s1, .int .u64 c1])) w)
  (h2 : ∀ w, (callFunc 57 #[.int .u64 a2, .int .u64 b2, .int .u64 c1]).run Tryz.prog w = .ok (.value (.tuple #[.int .u64 s2, .int .u64 c2])) w)
  (h3 : ∀ w, (callFunc 57 #[.int .u64 a3, .int .u64 b3, .int .u64 c2]).run Tryz.prog w = .ok (.value (.tuple #[.int .u64 s3, .int .u64 c3])) w) :
  Calls Tryz.prog 35 #[.agg #[.int .u64 a0, .int .u64 a1, .int .u64 a2, .int .u64 a3], .agg #[.int .u64 b0, .int .u64 b1, .int .u64 b2, .int .u64 b3]] w fun e w' =>
   e = .returned (.tuple #[.agg #[.int .u64 s0, .int .u64 s1, .int .u64 s2, .int .u64 s3], .int .u64 c3]) ∧ Below w.heap.size w w' := by
 go_enter Tryz.func35, Tryz.ntmps35
 go_wp2
 refine wp_loop_rounds 6 ?_
 rw [rounds_succ]
 go_wp2
 go_region_held3 (fun w' => w'.cell? ⟨w.heap.size, 0, none⟩ = some (.int .u64 a0) ∧ w'.cell? ⟨w.heap.size + 1, 0, none⟩ = some (.int .u64 b0)) (go_keep) ((simp only [h0]))
 go_wp2
 rw [rounds_succ]
 go_wp2
 go_region_held3 (fun w' => w'.cell? ⟨w.heap.size, 1, none⟩ = some (.int .u64 a1) ∧ w'.cell? ⟨w.heap.size + 1, 1, none⟩ = some (.int .u64 b1)) (go_keep) ((simp only [h1]))
 go_wp2
 rw [rounds_succ]
 go_wp2
 go_region_held3 (fun w' => w'.cell? ⟨w.heap.size, 2, none⟩ = some (.int .u64 a2) ∧ w'.cell? ⟨w.heap.size + 1, 2, none⟩ = some (.int .u64 b2)) (go_keep) ((simp only [h2]))
 go_wp2
 rw [rounds_succ]
 go_wp2
 go_region_held3 (fun w' => w'.cell? ⟨w.heap.size, 3, none⟩ = some (.int .u64 a3) ∧ w'.cell? ⟨w.heap.size + 1, 3, none⟩ = some (.int .u64 b3)) (go_keep) ((simp only [h3]))
 go_wp2
 rw [rounds_succ]
 go_wp2
 exact bodyPost_ret (v := .tuple #[.agg #[.int .u64 s0, .int .u64 s1, .int .u64 s2, .int .u64 s3], .int .u64 c3]) (by simp [results, Tryz.results35, go_sem]) rfl
  ⟨rfl, by repeat (first | exact Below.refl _ _ | refine gr_alloc ?_ _ | refine Below.drew ?_ | refine Ue ?_ _ | refine bel_tr ?_ (by assumption))⟩
theorem Jdl (X Y : Nat) (hX : X < 2 ^ 256) (hY : Y < 2 ^ 256) : ∃ S c : Nat, S < 2 ^ 256 ∧ c ≤ 1 ∧ X + Y = S + 2 ^ 256 * c ∧
  ∀ w, Calls Tryz.prog 82 #[num X, num Y] w fun e w' => e = .returned (.tuple #[num S, .int .u64 (c : Nat)]) ∧ Below w.heap.size w w' := by
 obtain ⟨s0, c0, l0, k0, e0, p0, q0⟩ := Vr (wd X 0) (wd Y 0) 0 (Kw _ _) (Kw _ _) (by omega)
 obtain ⟨s1, c1, l1, k1, e1, p1, q1⟩ := Vr (wd X 1) (wd Y 1) c0 (Kw _ _) (Kw _ _) (by omega)
 obtain ⟨s2, c2, l2, k2, e2, p2, q2⟩ := Vr (wd X 2) (wd Y 2) c1 (Kw _ _) (Kw _ _) (by omega)
 obtain ⟨s3, c3, l3, k3, e3, p3, q3⟩ := Vr (wd X 3) (wd Y 3) c2 (Kw _ _) (Kw _ _) (by omega)
 have sX := Xd X hX
 have sY := Xd Y hY
 obtain ⟨S, hS⟩ : ∃ S, S = s0 + 18446744073709551616 * s1 + 340282366920938463463374607431768211456 * s2 + 6277101735386680763835789423207666416102355444464034512896 * s3 := ⟨_, rfl⟩
 refine ⟨S, c3, ?_, k3, ?_, fun w => ?_⟩
 rotate_left 2
 ·rw [← Jbf s0 s1 s2 s3 l0 l1 l2 l3 S hS]
  exact add_words _ _ _ _ _ _ _ _ w s0 s1 s2 s3 c0 c1 c2 c3 (fun w => Jcm _ _ 0 _ _ (by omega) p0 q0 w) (fun w => Jcm _ _ _ _ _ k0 p1 q1 w) (fun w => Jcm _ _ _ _ _ k1 p2 q2 w) (fun w => Jcm _ _ _ _ _ k2 p3 q3 w)
 ·clear p0 p1 p2 p3 q0 q1 q2 q3; omega
 ·clear p0 p1 p2 p3 q0 q1 q2 q3; omega

theorem Jaj (X Y : Nat) (hX : X < 2 ^ 256) (hY : Y < 2 ^ 256) : ∃ S c : Nat, S < 2 ^ 256 ∧ c ≤ 1 ∧ X + 2 ^ 256 * c = S + Y ∧
  ∀ w, Calls Tryz.prog 35 #[num X, num Y] w fun e w' => e = .returned (.tuple #[num S, .int .u64 (c : Nat)]) ∧ Below w.heap.size w w' := by
 obtain ⟨s0, c0, l0, k0, e0, p0, q0⟩ := Wh (wd X 0) (wd Y 0) 0 (Kw _ _) (Kw _ _) (by omega)
 obtain ⟨s1, c1, l1, k1, e1, p1, q1⟩ := Wh (wd X 1) (wd Y 1) c0 (Kw _ _) (Kw _ _) (by omega)
 obtain ⟨s2, c2, l2, k2, e2, p2, q2⟩ := Wh (wd X 2) (wd Y 2) c1 (Kw _ _) (Kw _ _) (by omega)
 obtain ⟨s3, c3, l3, k3, e3, p3, q3⟩ := Wh (wd X 3) (wd Y 3) c2 (Kw _ _) (Kw _ _) (by omega)
 have sX := Xd X hX
 have sY := Xd Y hY
 obtain ⟨S, hS⟩ : ∃ S, S = s0 + 18446744073709551616 * s1 + 340282366920938463463374607431768211456 * s2 + 6277101735386680763835789423207666416102355444464034512896 * s3 := ⟨_, rfl⟩
 refine ⟨S, c3, ?_, k3, ?_, fun w => ?_⟩
 rotate_left 2
 ·rw [← Jbf s0 s1 s2 s3 l0 l1 l2 l3 S hS]
  exact sub_words _ _ _ _ _ _ _ _ w s0 s1 s2 s3 c0 c1 c2 c3 (fun w => Jdd _ _ 0 _ _ (by omega) p0 q0 w) (fun w => Jdd _ _ _ _ _ k0 p1 q1 w) (fun w => Jdd _ _ _ _ _ k1 p2 q2 w) (fun w => Jdd _ _ _ _ _ k2 p3 q3 w)
 ·clear p0 p1 p2 p3 q0 q1 q2 q3; omega
 ·clear p0 p1 p2 p3 q0 q1 q2 q3; omega
theorem kn_le (u d q r y1 y0 : Nat) (hr : u = q * y1 + r) (hq : q * y0 ≤ 4294967296 * r + d) : q * (y1 * 4294967296 + y0) ≤ u * 4294967296 + d := by
 rw [hr, Nat.mul_add, ← Nat.mul_assoc]
 generalize q * y1 = m
 generalize q * y0 = k at *
 omega
theorem kn_gt (u d q r y1 y0 : Nat) (hr : u = q * y1 + r) (hq : 4294967296 * r + d < q * y0) : u * 4294967296 + d < q * (y1 * 4294967296 + y0) := by
 rw [hr, Nat.mul_add, ← Nat.mul_assoc]
 generalize q * y1 = m
 generalize q * y0 = k at *
 omega
theorem kn_small (u d y : Nat) (hd : d < 4294967296) (hu : u < y) : (u * 4294967296 + d) / y < 4294967296 := by
 refine Nat.div_lt_of_lt_mul ?_
 have : (u + 1) * 4294967296 ≤ y * 4294967296 := Nat.mul_le_mul_right _ hu
 rw [Nat.add_mul] at this; omega
theorem kn_first (u d y1 y0 : Nat) (h1 : 2147483648 ≤ y1) (h0 : y0 < 4294967296) (hd : d < 4294967296) (hu : u < y1 * 4294967296 + y0) : (u * 4294967296 + d) / (y1 * 4294967296 + y0) ≤ u / y1 ∧ u / y1 ≤ 4294967297 := by
 have hy1 : 0 < y1 := by omega
 refine ⟨?_, ?_⟩
 ·have hle : (u * 4294967296 + d) / (y1 * 4294967296 + y0) ≤ (u * 4294967296 + d) / (y1 * 4294967296) := Nat.div_le_div_left (by omega) (by omega)
  refine Nat.le_trans hle ?_
  rw [Nat.mul_comm y1, ← Nat.div_div_eq_div_mul]
  refine Nat.div_le_div_right ?_
  omega
 ·rw [Nat.div_le_iff_le_mul_add_pred hy1]
  omega
theorem Xl (u d q r y1 y0 : Nat) (hd : d < 4294967296) (hu : u < y1 * 4294967296 + y0) (hr : u = q * y1 + r) (h : 4294967296 ≤ q ∨ 4294967296 * r + d < q * y0) : (u * 4294967296 + d) / (y1 * 4294967296 + y0) < q := by
 rcases h with h | h
 ·exact Nat.lt_of_lt_of_le (kn_small u d _ hd hu) h
 ·have := kn_gt u d q r y1 y0 hr h
  exact Nat.div_lt_of_lt_mul (Nat.lt_of_lt_of_eq this (Nat.mul_comm _ _))
theorem Jdi (u d q r y1 y0 : Nat) (hy : 0 < y1 * 4294967296 + y0) (hr : u = q * y1 + r) (hq : q * y0 ≤ 4294967296 * r + d) (hge : (u * 4294967296 + d) / (y1 * 4294967296 + y0) ≤ q) : q = (u * 4294967296 + d) / (y1 * 4294967296 + y0) := by
 have := kn_le u d q r y1 y0 hr hq
 have h2 : q ≤ (u * 4294967296 + d) / (y1 * 4294967296 + y0) := (Nat.le_div_iff_mul_le hy).2 this
 omega
theorem Xk (u d q r y1 y0 : Nat) (hy : 0 < y1 * 4294967296 + y0) (h0 : y0 < 4294967296) (hr : u = q * y1 + r) (hq : q ≤ 4294967296) (hro : 4294967296 ≤ r) (hge : (u * 4294967296 + d) / (y1 * 4294967296 + y0) ≤ q) : q = (u * 4294967296 + d) / (y1 * 4294967296 + y0) := by
 refine Jdi u d q r y1 y0 hy hr ?_ hge
 have : q * y0 ≤ 4294967296 * 4294967296 := Nat.mul_le_mul hq (by omega)
 omega
end Go.Proofs.YtodlpmepoakdlaaGreat
