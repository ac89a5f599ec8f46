/-
 balefireref02.RSub: digit by digit.
-/
import Derived.Test.YtodlpmepoakdlaaMRAdd
import Derived.Test.YtodlpmepoakdlaaMRbits
import Derived.Test.YtodlpmepoakdlaaMRof
namespace Go.Proofs.Ytodlpmepoakdlaa
set_option maxRecDepth 100000
open Go.RowKit
set_option linter.unusedSimpArgs false
set_option linter.unusedVariables false
attribute [local go_sem ↓] Go.wp_at_zero Go.wp_at_succ

theorem rsub_num (X Y i c P : Nat) (hc : c ≤ 1) (h : P + Y % 65536 ^ i = X % 65536 ^ i + 65536 ^ i * c) : ∃ n d c' : Nat, n = dg X i + 65536 - dg Y i - c ∧ d = n % 65536 ∧ c' = 1 - n / 65536 ∧ d < 65536 ∧ c' ≤ 1 ∧ n < 131072 ∧ n / 65536 ≤ 1 ∧
  P + 65536 ^ i * d + Y % 65536 ^ (i + 1) = X % 65536 ^ (i + 1) + 65536 ^ (i + 1) * c' := by
 have hx := dg_lt X i
 have hy := dg_lt Y i
 refine ⟨_, _, _, rfl, rfl, rfl, Nat.mod_lt _ (by decide), by omega, by omega, by omega, ?_⟩
 rw [mod_dig, mod_dig, Nat.pow_succ, Nat.mul_assoc]
 obtain ⟨d, hd⟩ : ∃ d, d = (dg X i + 65536 - dg Y i - c) % 65536 := ⟨_, rfl⟩
 obtain ⟨e, he⟩ : ∃ e, e = 1 - (dg X i + 65536 - dg Y i - c) / 65536 := ⟨_, rfl⟩
 rw [← hd, ← he]
 have key : d + dg Y i + c = dg X i + 65536 * e := by omega
 have k2 := congrArg (65536 ^ i * ·) key
 simp only [Nat.mul_add] at k2
 omega

/-- what the document's call tells -/
def rsubRes (X Y : Nat) (e : Ending) : Prop := ∃ S c : Nat, e = .returned (.tuple #[num S, .int .u64 (c : Nat)]) ∧ S + Y = X + 65536 ^ 16 * c ∧ S < 65536 ^ 16 ∧ c ≤ 1
set_option maxRecDepth 100000 in
set_option maxHeartbeats 4000000 in
theorem rsub_walk (X Y : Nat) (hX : X < 2 ^ 256) (hY : Y < 2 ^ 256) (w : World) : Calls Try.prog 47 #[num X, num Y] w fun e w' => rsubRes X Y e ∧ Below w.heap.size w w' := by
 have CX := digitsA X; have CY := digitsA Y
 have HCX := Lib.hid CX; have HCY := Lib.hid CY
 clear CX CY
 have HX := Lib.hid hX; have HY := Lib.hid hY; clear hX hY
 go_enter Try.func47, Try.ntmps47
 go_wp2_with fail
 have BW := Lib.hid (Below.refl w.heap.size w)
 have Na : At (((w.alloc (.cells #[.int .u64 (wd X 0 : Nat), .int .u64 (wd X 1 : Nat), .int .u64 (wd X 2 : Nat), .int .u64 (wd X 3 : Nat)] 24)).alloc (.cells #[.int .u64 (wd Y 0 : Nat), .int .u64 (wd Y 1 : Nat), .int .u64 (wd Y 2 : Nat), .int .u64 (wd Y 3 : Nat)] 24)).alloc (.cells #[.int .u64 0, .int .u64 0, .int .u64 0, .int .u64 0] 24)) (w.heap.size) 24 #[.int .u64 (wd X 0 : Nat), .int .u64 (wd X 1 : Nat), .int .u64 (wd X 2 : Nat), .int .u64 (wd X 3 : Nat)] := ((At.at_ _ _ _ _ (by simp)).alloc _).alloc _
 have Nb : At (((w.alloc (.cells #[.int .u64 (wd X 0 : Nat), .int .u64 (wd X 1 : Nat), .int .u64 (wd X 2 : Nat), .int .u64 (wd X 3 : Nat)] 24)).alloc (.cells #[.int .u64 (wd Y 0 : Nat), .int .u64 (wd Y 1 : Nat), .int .u64 (wd Y 2 : Nat), .int .u64 (wd Y 3 : Nat)] 24)).alloc (.cells #[.int .u64 0, .int .u64 0, .int .u64 0, .int .u64 0] 24)) (w.heap.size + 1) 24 #[.int .u64 (wd Y 0 : Nat), .int .u64 (wd Y 1 : Nat), .int .u64 (wd Y 2 : Nat), .int .u64 (wd Y 3 : Nat)] := (At.at_ _ _ _ _ (by simp)).alloc _
 have Nr : At (((w.alloc (.cells #[.int .u64 (wd X 0 : Nat), .int .u64 (wd X 1 : Nat), .int .u64 (wd X 2 : Nat), .int .u64 (wd X 3 : Nat)] 24)).alloc (.cells #[.int .u64 (wd Y 0 : Nat), .int .u64 (wd Y 1 : Nat), .int .u64 (wd Y 2 : Nat), .int .u64 (wd Y 3 : Nat)] 24)).alloc (.cells #[.int .u64 0, .int .u64 0, .int .u64 0, .int .u64 0] 24)) (w.heap.size + 1 + 1) 24 #[.int .u64 0, .int .u64 0, .int .u64 0, .int .u64 0] := At.at_ _ _ _ _ (by simp)
 have Er : w.heap.size ≤ w.heap.size + 1 + 1 := by have := BW.out.size; omega
 have Dar : w.heap.size ≠ w.heap.size + 1 + 1 := by omega
 have Dbr : w.heap.size + 1 ≠ w.heap.size + 1 + 1 := by omega
 have NB : Below w.heap.size w (((w.alloc (.cells #[.int .u64 (wd X 0 : Nat), .int .u64 (wd X 1 : Nat), .int .u64 (wd X 2 : Nat), .int .u64 (wd X 3 : Nat)] 24)).alloc (.cells #[.int .u64 (wd Y 0 : Nat), .int .u64 (wd Y 1 : Nat), .int .u64 (wd Y 2 : Nat), .int .u64 (wd Y 3 : Nat)] 24)).alloc (.cells #[.int .u64 0, .int .u64 0, .int .u64 0, .int .u64 0] 24)) := gr_alloc (gr_alloc (gr_alloc BW.out _) _) _
 clear BW 
 generalize (((w.alloc (.cells #[.int .u64 (wd X 0 : Nat), .int .u64 (wd X 1 : Nat), .int .u64 (wd X 2 : Nat), .int .u64 (wd X 3 : Nat)] 24)).alloc (.cells #[.int .u64 (wd Y 0 : Nat), .int .u64 (wd Y 1 : Nat), .int .u64 (wd Y 2 : Nat), .int .u64 (wd Y 3 : Nat)] 24)).alloc (.cells #[.int .u64 0, .int .u64 0, .int .u64 0, .int .u64 0] 24)) = W1 at *
 generalize w.heap.size + 1 + 1 = gr at *
 generalize w.heap.size + 1 = gb at *
 obtain ⟨ga, hg0⟩ : ∃ g, g = w.heap.size := ⟨_, rfl⟩
 rw [← hg0] at Na ⊢
 rw [← hg0] at Dar
 clear hg0
 have Fa := Lib.hid Na
 have Fb := Lib.hid Nb
 have Fr := Lib.hid Nr
 have BW := Lib.hid NB
 clear NB Na Nb Nr
 refine (HCX.out _).mono ?_
 rintro e v2 ⟨rfl, z2⟩
 have Na := Lib.hid (Fa.out.on z2)
 have Nb := Lib.hid (Fb.out.on z2)
 have Nr := Lib.hid (Fr.out.on z2)
 have NB := Lib.hid (bel_tr BW.out z2)
 clear BW z2 Fa Fb Fr
 have Fa := Na
 have Fb := Nb
 have Fr := Nr
 have BW := NB
 clear NB Na Nb Nr
 have Lb := Fb.out.lt
 have cb0 : v2.cell? ⟨gb, 0, none⟩ = some (.int .u64 (wd Y 0 : Nat)) := Fb.out.cell 0
 have cb1 : v2.cell? ⟨gb, 1, none⟩ = some (.int .u64 (wd Y 1 : Nat)) := Fb.out.cell 1
 have cb2 : v2.cell? ⟨gb, 2, none⟩ = some (.int .u64 (wd Y 2 : Nat)) := Fb.out.cell 2
 have cb3 : v2.cell? ⟨gb, 3, none⟩ = some (.int .u64 (wd Y 3 : Nat)) := Fb.out.cell 3
 go_wp2_with fail
 clear Lb cb0 cb1 cb2 cb3
 have Nx : At (v2.alloc (.cells #[.int .u64 (dg X 0 : Nat), .int .u64 (dg X 1 : Nat), .int .u64 (dg X 2 : Nat), .int .u64 (dg X 3 : Nat), .int .u64 (dg X 4 : Nat), .int .u64 (dg X 5 : Nat), .int .u64 (dg X 6 : Nat), .int .u64 (dg X 7 : Nat), .int .u64 (dg X 8 : Nat), .int .u64 (dg X 9 : Nat), .int .u64 (dg X 10 : Nat), .int .u64 (dg X 11 : Nat), .int .u64 (dg X 12 : Nat), .int .u64 (dg X 13 : Nat), .int .u64 (dg X 14 : Nat), .int .u64 (dg X 15 : Nat)] 74)) (v2.heap.size) 74 #[.int .u64 (dg X 0 : Nat), .int .u64 (dg X 1 : Nat), .int .u64 (dg X 2 : Nat), .int .u64 (dg X 3 : Nat), .int .u64 (dg X 4 : Nat), .int .u64 (dg X 5 : Nat), .int .u64 (dg X 6 : Nat), .int .u64 (dg X 7 : Nat), .int .u64 (dg X 8 : Nat), .int .u64 (dg X 9 : Nat), .int .u64 (dg X 10 : Nat), .int .u64 (dg X 11 : Nat), .int .u64 (dg X 12 : Nat), .int .u64 (dg X 13 : Nat), .int .u64 (dg X 14 : Nat), .int .u64 (dg X 15 : Nat)] := At.at_ _ _ _ _ (by simp)
 have Ex : w.heap.size ≤ v2.heap.size := by have := BW.out.size; omega
 have Dax : ga ≠ v2.heap.size := by have := Fa.out.lt; omega
 have Dbx : gb ≠ v2.heap.size := by have := Fb.out.lt; omega
 have Drx : gr ≠ v2.heap.size := by have := Fr.out.lt; omega
 have Na : At (v2.alloc (.cells #[.int .u64 (dg X 0 : Nat), .int .u64 (dg X 1 : Nat), .int .u64 (dg X 2 : Nat), .int .u64 (dg X 3 : Nat), .int .u64 (dg X 4 : Nat), .int .u64 (dg X 5 : Nat), .int .u64 (dg X 6 : Nat), .int .u64 (dg X 7 : Nat), .int .u64 (dg X 8 : Nat), .int .u64 (dg X 9 : Nat), .int .u64 (dg X 10 : Nat), .int .u64 (dg X 11 : Nat), .int .u64 (dg X 12 : Nat), .int .u64 (dg X 13 : Nat), .int .u64 (dg X 14 : Nat), .int .u64 (dg X 15 : Nat)] 74)) ga 24 #[.int .u64 (wd X 0 : Nat), .int .u64 (wd X 1 : Nat), .int .u64 (wd X 2 : Nat), .int .u64 (wd X 3 : Nat)] := Fa.out.alloc _
 have Nb : At (v2.alloc (.cells #[.int .u64 (dg X 0 : Nat), .int .u64 (dg X 1 : Nat), .int .u64 (dg X 2 : Nat), .int .u64 (dg X 3 : Nat), .int .u64 (dg X 4 : Nat), .int .u64 (dg X 5 : Nat), .int .u64 (dg X 6 : Nat), .int .u64 (dg X 7 : Nat), .int .u64 (dg X 8 : Nat), .int .u64 (dg X 9 : Nat), .int .u64 (dg X 10 : Nat), .int .u64 (dg X 11 : Nat), .int .u64 (dg X 12 : Nat), .int .u64 (dg X 13 : Nat), .int .u64 (dg X 14 : Nat), .int .u64 (dg X 15 : Nat)] 74)) gb 24 #[.int .u64 (wd Y 0 : Nat), .int .u64 (wd Y 1 : Nat), .int .u64 (wd Y 2 : Nat), .int .u64 (wd Y 3 : Nat)] := Fb.out.alloc _
 have Nr : At (v2.alloc (.cells #[.int .u64 (dg X 0 : Nat), .int .u64 (dg X 1 : Nat), .int .u64 (dg X 2 : Nat), .int .u64 (dg X 3 : Nat), .int .u64 (dg X 4 : Nat), .int .u64 (dg X 5 : Nat), .int .u64 (dg X 6 : Nat), .int .u64 (dg X 7 : Nat), .int .u64 (dg X 8 : Nat), .int .u64 (dg X 9 : Nat), .int .u64 (dg X 10 : Nat), .int .u64 (dg X 11 : Nat), .int .u64 (dg X 12 : Nat), .int .u64 (dg X 13 : Nat), .int .u64 (dg X 14 : Nat), .int .u64 (dg X 15 : Nat)] 74)) gr 24 #[.int .u64 0, .int .u64 0, .int .u64 0, .int .u64 0] := Fr.out.alloc _
 have NB : Below w.heap.size w (v2.alloc (.cells #[.int .u64 (dg X 0 : Nat), .int .u64 (dg X 1 : Nat), .int .u64 (dg X 2 : Nat), .int .u64 (dg X 3 : Nat), .int .u64 (dg X 4 : Nat), .int .u64 (dg X 5 : Nat), .int .u64 (dg X 6 : Nat), .int .u64 (dg X 7 : Nat), .int .u64 (dg X 8 : Nat), .int .u64 (dg X 9 : Nat), .int .u64 (dg X 10 : Nat), .int .u64 (dg X 11 : Nat), .int .u64 (dg X 12 : Nat), .int .u64 (dg X 13 : Nat), .int .u64 (dg X 14 : Nat), .int .u64 (dg X 15 : Nat)] 74)) := gr_alloc BW.out _
 clear BW Fa Fb Fr
 generalize (v2.alloc (.cells #[.int .u64 (dg X 0 : Nat), .int .u64 (dg X 1 : Nat), .int .u64 (dg X 2 : Nat), .int .u64 (dg X 3 : Nat), .int .u64 (dg X 4 : Nat), .int .u64 (dg X 5 : Nat), .int .u64 (dg X 6 : Nat), .int .u64 (dg X 7 : Nat), .int .u64 (dg X 8 : Nat), .int .u64 (dg X 9 : Nat), .int .u64 (dg X 10 : Nat), .int .u64 (dg X 11 : Nat), .int .u64 (dg X 12 : Nat), .int .u64 (dg X 13 : Nat), .int .u64 (dg X 14 : Nat), .int .u64 (dg X 15 : Nat)] 74)) = W3 at *
 generalize v2.heap.size = gx at *
 have Fa := Lib.hid Na
 have Fb := Lib.hid Nb
 have Fr := Lib.hid Nr
 have Fx := Lib.hid Nx
 have BW := Lib.hid NB
 clear NB Na Nb Nr Nx
 refine (HCY.out _).mono ?_
 rintro e v4 ⟨rfl, z4⟩
 have Na := Lib.hid (Fa.out.on z4)
 have Nb := Lib.hid (Fb.out.on z4)
 have Nr := Lib.hid (Fr.out.on z4)
 have Nx := Lib.hid (Fx.out.on z4)
 have NB := Lib.hid (bel_tr BW.out z4)
 clear BW z4 Fa Fb Fr Fx
 have Fa := Na
 have Fb := Nb
 have Fr := Nr
 have Fx := Nx
 have BW := NB
 clear NB Na Nb Nr Nx
 go_wp2_with fail
 have Ny : At (v4.alloc (.cells #[.int .u64 (dg Y 0 : Nat), .int .u64 (dg Y 1 : Nat), .int .u64 (dg Y 2 : Nat), .int .u64 (dg Y 3 : Nat), .int .u64 (dg Y 4 : Nat), .int .u64 (dg Y 5 : Nat), .int .u64 (dg Y 6 : Nat), .int .u64 (dg Y 7 : Nat), .int .u64 (dg Y 8 : Nat), .int .u64 (dg Y 9 : Nat), .int .u64 (dg Y 10 : Nat), .int .u64 (dg Y 11 : Nat), .int .u64 (dg Y 12 : Nat), .int .u64 (dg Y 13 : Nat), .int .u64 (dg Y 14 : Nat), .int .u64 (dg Y 15 : Nat)] 74)) (v4.heap.size) 74 #[.int .u64 (dg Y 0 : Nat), .int .u64 (dg Y 1 : Nat), .int .u64 (dg Y 2 : Nat), .int .u64 (dg Y 3 : Nat), .int .u64 (dg Y 4 : Nat), .int .u64 (dg Y 5 : Nat), .int .u64 (dg Y 6 : Nat), .int .u64 (dg Y 7 : Nat), .int .u64 (dg Y 8 : Nat), .int .u64 (dg Y 9 : Nat), .int .u64 (dg Y 10 : Nat), .int .u64 (dg Y 11 : Nat), .int .u64 (dg Y 12 : Nat), .int .u64 (dg Y 13 : Nat), .int .u64 (dg Y 14 : Nat), .int .u64 (dg Y 15 : Nat)] := At.at_ _ _ _ _ (by simp)
 have Dry : gr ≠ v4.heap.size := by have := Fr.out.lt; omega
 have Dxy : gx ≠ v4.heap.size := by have := Fx.out.lt; omega
 have Na : At (v4.alloc (.cells #[.int .u64 (dg Y 0 : Nat), .int .u64 (dg Y 1 : Nat), .int .u64 (dg Y 2 : Nat), .int .u64 (dg Y 3 : Nat), .int .u64 (dg Y 4 : Nat), .int .u64 (dg Y 5 : Nat), .int .u64 (dg Y 6 : Nat), .int .u64 (dg Y 7 : Nat), .int .u64 (dg Y 8 : Nat), .int .u64 (dg Y 9 : Nat), .int .u64 (dg Y 10 : Nat), .int .u64 (dg Y 11 : Nat), .int .u64 (dg Y 12 : Nat), .int .u64 (dg Y 13 : Nat), .int .u64 (dg Y 14 : Nat), .int .u64 (dg Y 15 : Nat)] 74)) ga 24 #[.int .u64 (wd X 0 : Nat), .int .u64 (wd X 1 : Nat), .int .u64 (wd X 2 : Nat), .int .u64 (wd X 3 : Nat)] := Fa.out.alloc _
 have Nb : At (v4.alloc (.cells #[.int .u64 (dg Y 0 : Nat), .int .u64 (dg Y 1 : Nat), .int .u64 (dg Y 2 : Nat), .int .u64 (dg Y 3 : Nat), .int .u64 (dg Y 4 : Nat), .int .u64 (dg Y 5 : Nat), .int .u64 (dg Y 6 : Nat), .int .u64 (dg Y 7 : Nat), .int .u64 (dg Y 8 : Nat), .int .u64 (dg Y 9 : Nat), .int .u64 (dg Y 10 : Nat), .int .u64 (dg Y 11 : Nat), .int .u64 (dg Y 12 : Nat), .int .u64 (dg Y 13 : Nat), .int .u64 (dg Y 14 : Nat), .int .u64 (dg Y 15 : Nat)] 74)) gb 24 #[.int .u64 (wd Y 0 : Nat), .int .u64 (wd Y 1 : Nat), .int .u64 (wd Y 2 : Nat), .int .u64 (wd Y 3 : Nat)] := Fb.out.alloc _
 have Nr : At (v4.alloc (.cells #[.int .u64 (dg Y 0 : Nat), .int .u64 (dg Y 1 : Nat), .int .u64 (dg Y 2 : Nat), .int .u64 (dg Y 3 : Nat), .int .u64 (dg Y 4 : Nat), .int .u64 (dg Y 5 : Nat), .int .u64 (dg Y 6 : Nat), .int .u64 (dg Y 7 : Nat), .int .u64 (dg Y 8 : Nat), .int .u64 (dg Y 9 : Nat), .int .u64 (dg Y 10 : Nat), .int .u64 (dg Y 11 : Nat), .int .u64 (dg Y 12 : Nat), .int .u64 (dg Y 13 : Nat), .int .u64 (dg Y 14 : Nat), .int .u64 (dg Y 15 : Nat)] 74)) gr 24 #[.int .u64 0, .int .u64 0, .int .u64 0, .int .u64 0] := Fr.out.alloc _
 have Nx : At (v4.alloc (.cells #[.int .u64 (dg Y 0 : Nat), .int .u64 (dg Y 1 : Nat), .int .u64 (dg Y 2 : Nat), .int .u64 (dg Y 3 : Nat), .int .u64 (dg Y 4 : Nat), .int .u64 (dg Y 5 : Nat), .int .u64 (dg Y 6 : Nat), .int .u64 (dg Y 7 : Nat), .int .u64 (dg Y 8 : Nat), .int .u64 (dg Y 9 : Nat), .int .u64 (dg Y 10 : Nat), .int .u64 (dg Y 11 : Nat), .int .u64 (dg Y 12 : Nat), .int .u64 (dg Y 13 : Nat), .int .u64 (dg Y 14 : Nat), .int .u64 (dg Y 15 : Nat)] 74)) gx 74 #[.int .u64 (dg X 0 : Nat), .int .u64 (dg X 1 : Nat), .int .u64 (dg X 2 : Nat), .int .u64 (dg X 3 : Nat), .int .u64 (dg X 4 : Nat), .int .u64 (dg X 5 : Nat), .int .u64 (dg X 6 : Nat), .int .u64 (dg X 7 : Nat), .int .u64 (dg X 8 : Nat), .int .u64 (dg X 9 : Nat), .int .u64 (dg X 10 : Nat), .int .u64 (dg X 11 : Nat), .int .u64 (dg X 12 : Nat), .int .u64 (dg X 13 : Nat), .int .u64 (dg X 14 : Nat), .int .u64 (dg X 15 : Nat)] := Fx.out.alloc _
 have NB : Below w.heap.size w (v4.alloc (.cells #[.int .u64 (dg Y 0 : Nat), .int .u64 (dg Y 1 : Nat), .int .u64 (dg Y 2 : Nat), .int .u64 (dg Y 3 : Nat), .int .u64 (dg Y 4 : Nat), .int .u64 (dg Y 5 : Nat), .int .u64 (dg Y 6 : Nat), .int .u64 (dg Y 7 : Nat), .int .u64 (dg Y 8 : Nat), .int .u64 (dg Y 9 : Nat), .int .u64 (dg Y 10 : Nat), .int .u64 (dg Y 11 : Nat), .int .u64 (dg Y 12 : Nat), .int .u64 (dg Y 13 : Nat), .int .u64 (dg Y 14 : Nat), .int .u64 (dg Y 15 : Nat)] 74)) := gr_alloc BW.out _
 clear BW Fa Fb Fr Fx
 generalize (v4.alloc (.cells #[.int .u64 (dg Y 0 : Nat), .int .u64 (dg Y 1 : Nat), .int .u64 (dg Y 2 : Nat), .int .u64 (dg Y 3 : Nat), .int .u64 (dg Y 4 : Nat), .int .u64 (dg Y 5 : Nat), .int .u64 (dg Y 6 : Nat), .int .u64 (dg Y 7 : Nat), .int .u64 (dg Y 8 : Nat), .int .u64 (dg Y 9 : Nat), .int .u64 (dg Y 10 : Nat), .int .u64 (dg Y 11 : Nat), .int .u64 (dg Y 12 : Nat), .int .u64 (dg Y 13 : Nat), .int .u64 (dg Y 14 : Nat), .int .u64 (dg Y 15 : Nat)] 74)) = W5 at *
 generalize v4.heap.size = gy at *
 have Fa := Lib.hid Na
 have Fb := Lib.hid Nb
 have Fr := Lib.hid Nr
 have Fx := Lib.hid Nx
 have Fy := Lib.hid Ny
 have BW := Lib.hid NB
 clear NB Na Nb Nr Nx Ny
 clear Fa
 clear Fb
 go_loopw [8, 9] (fun c s wr => ∃ (i cc : Nat) (M : List Nat), i ≤ 16 ∧ c = .int .u64 (cc : Nat) ∧ s = .int .i64 (i : Nat) ∧ Hid (At wr gx 74 (ws M) ∧ At wr gy 74 (ws (ds Y)) ∧ At wr gr 24 #[.int .u64 0, .int .u64 0, .int .u64 0, .int .u64 0] ∧ Below w.heap.size w wr ∧ M.length = 16 ∧ (∀ x ∈ M, x < 65536) ∧ cc ≤ 1 ∧ (∀ k, i ≤ k → k < 16 → M.getD k 0 = dg X k) ∧ lv 65536 (M.take i) + Y % 65536 ^ i = X % 65536 ^ i + 65536 ^ i * cc)) (fun _ s _ => 16 - (intOf s).toNat)
 case atStart => exact ⟨0, 0, ds X, by omega, rfl, rfl, Fx.out, Fy.out, Fr.out, BW.out, rfl, ds_lt X, by omega, fun k _ h => ds_at X k h, by simp [lv, Nat.mod_one]⟩
 case round =>
  obtain ⟨i, cc, M, hi, rfl, rfl, hM⟩ := hrel
  clear Fx Fy Fr BW
  by_cases hlt : i < 16
  ·have hcc := hM.out.2.2.2.2.2.2.1
   obtain ⟨n, d, c', hn, hd, hc', hdl, hcl, hnl, hnq, hs⟩ := rsub_num X Y i cc (lv 65536 (M.take i)) hcc hM.out.2.2.2.2.2.2.2.2
   have hx16 := dg_lt X i
   have hy16 := dg_lt Y i
   have fx : wr.drew.cell? ⟨gx, i, none⟩ = some (.int .u64 (dg X i : Nat)) := by rw [hM.out.1.drew.cell, ws_at _ _ (by rw [hM.out.2.2.2.2.1]; omega), hM.out.2.2.2.2.2.2.2.1 i (Nat.le_refl _) hlt]
   have fy : wr.drew.cell? ⟨gy, i, none⟩ = some (.int .u64 (dg Y i : Nat)) := by rw [hM.out.2.1.drew.cell, ws_at _ _ (by rw [ds_len]; omega), ds_at Y i hlt]
   have ff : wr.drew.frozen? ⟨gx, i, none⟩ = false := hM.out.1.drew.frozen i
   have i0 : (0 : Int) ≤ (i : Int) := by omega
   have i16 : (i : Int) < 16 := by omega
   have v1 : IntKind.u64.wrap (((dg X i : Nat) : Int) + 65536) = ((dg X i + 65536 : Nat) : Int) := by rw [IntKind.wrap_u64]; omega
   have v2 : IntKind.u64.wrap (((dg X i + 65536 : Nat) : Int) - ((dg Y i : Nat) : Int)) = ((dg X i + 65536 - dg Y i : Nat) : Int) := by rw [IntKind.wrap_u64]; omega
   have v3 : IntKind.u64.wrap (((dg X i + 65536 - dg Y i : Nat) : Int) - (cc : Int)) = ((n : Nat) : Int) := by rw [hn, IntKind.wrap_u64]; omega
   have v4 : Int.tmod (n : Int) 65536 = (d : Nat) := by rw [hd, Int.tmod_eq_emod_of_nonneg (by omega)]; omega
   have v5 : Int.tdiv (n : Int) 65536 = ((n / 65536 : Nat) : Int) := by rw [Int.tdiv_eq_ediv_of_nonneg (by omega)]; omega
   have v4b : (n : Int) % 65536 = (d : Nat) := by omega
   have v5b : (n : Int) / 65536 = ((n / 65536 : Nat) : Int) := by omega
   have v6 : IntKind.u64.wrap (1 - ((n / 65536 : Nat) : Int)) = (c' : Nat) := by rw [hc', IntKind.wrap_u64]; omega
   have v7 : (1 : Int) - ((n / 65536 : Nat) : Int) = (c' : Nat) := by omega
   generalize dg X i + 65536 - dg Y i = s2 at *
   generalize dg X i + 65536 = s1 at *
   generalize n / 65536 = nq at *
   have HS := Lib.hid hs; have HDL := Lib.hid hdl; have HCL := Lib.hid hcl
   clear hs hn hd hc' hdl hnq
   generalize dg X i = xi at *
   generalize dg Y i = yi at *
   go_wp2_with fail
   refine wp_region_still_tail 10 (by kernel_rfl) (by kernel_rfl) ?_
   simp only [List.take_succ_cons, List.take_zero, List.drop_succ_cons, List.drop_zero]
   change wpStill _ _ wr.drew (fun a' => wpList _ _ _ _ a' wr.drew) _ _
   obtain ⟨wj, hwj⟩ : ∃ wj, wr.drew = wj := ⟨_, rfl⟩
   have hwj' := Lib.hid hwj
   rw [hwj] at fx fy ff ⊢
   clear hwj
   repeat still_step
   refine wpStill_nil ?_
   go_wp2
   go_roundw
   case rel =>
    first
     | refine ⟨i + 1, c', M.set i d, by omega, rfl, by go_num, ?_⟩
     | ((repeat apply Exists.intro); refine ⟨⟨i + 1, c', M.set i d, by omega, rfl, by go_num, ?_⟩, rfl⟩)
    rw [← hwj'.out]
    have hyx : gy ≠ gx := by first | exact Dyx | exact Dxy.symm
    have hrx : gr ≠ gx := by first | exact Drx | exact Dxr.symm
    refine ⟨by rw [← ws_set]; exact hM.out.1.drew.set _ _, hM.out.2.1.drew.far (by exact fun e => hyx e.symm) _, hM.out.2.2.1.drew.far (by exact fun e => hrx e.symm) _, hM.out.2.2.2.1.drew.setCell Ex _, by rw [List.length_set]; exact hM.out.2.2.2.2.1, fun x hx => ?_, HCL.out, fun k h1 h2 => ?_, ?_⟩
    ·rcases List.mem_or_eq_of_mem_set hx with h | h
     ·exact hM.out.2.2.2.2.2.1 x h
     ·rw [h]; exact HDL.out
    ·rw [getD_set_far _ _ _ _ (by omega)]; exact hM.out.2.2.2.2.2.2.2.1 k (by omega) h2
    ·rw [take_set _ _ _ (by rw [hM.out.2.2.2.2.1]; omega)]; exact HS.out
   case measure => simp [intOf]; omega
  ·obtain rfl : i = 16 := by omega
   have hx := HX.out
   have hy := HY.out
   have hs := hM.out.2.2.2.2.2.2.2.2
   rw [List.take_of_length_le (by rw [hM.out.2.2.2.2.1]; omega), Nat.mod_eq_of_lt (show X < 65536 ^ 16 by omega), Nat.mod_eq_of_lt (show Y < 65536 ^ 16 by omega)] at hs
   have hlt := lv_lt 65536 M hM.out.2.2.2.2.2.1
   rw [hM.out.2.2.2.2.1] at hlt
   have C := fun w' (hb : Below wr.heap.size wr w') => rof_any M hM.out.2.2.2.2.1 hM.out.2.2.2.2.2.1 gx 0 16 w' (fun k hk => by rw [Nat.zero_add, (hM.out.1.on hb).cell, ws_at _ _ (by rw [hM.out.2.2.2.2.1]; omega)])
   obtain ⟨S, hS⟩ : ∃ S, lv 65536 M = S := ⟨_, rfl⟩
   rw [hS] at C hs hlt
   have HC := Lib.hid C; have HSS := Lib.hid hs; have HLT := Lib.hid hlt
   have Fx := hM.out.1.lt
   have Fr := Lib.hid hM.out.2.2.1; have BW := Lib.hid hM.out.2.2.2.1; have HCC := Lib.hid hM.out.2.2.2.2.2.2.1
   clear C hs hlt hS hM hx hy
   go_wp2_with fail
   refine (HC.out _ (Below.refl _ _)).mono ?_
   rintro e v9 ⟨rfl, z9⟩
   have Nr := Fr.out.on z9
   have NB := bel_tr BW.out z9
   clear Fr BW z9
   have FR := Lib.hid Nr
   have BW := Lib.hid NB
   clear Nr NB
   have d0 : v9.cell? ⟨gr, 0, none⟩ = some (.int .u64 0) := FR.out.cell 0
   have d1 : v9.cell? ⟨gr, 1, none⟩ = some (.int .u64 0) := FR.out.cell 1
   have d2 : v9.cell? ⟨gr, 2, none⟩ = some (.int .u64 0) := FR.out.cell 2
   have d3 : v9.cell? ⟨gr, 3, none⟩ = some (.int .u64 0) := FR.out.cell 3
   have f0 : v9.frozen? ⟨gr, 0, none⟩ = false := FR.out.frozen 0
   have f1 : v9.frozen? ⟨gr, 1, none⟩ = false := FR.out.frozen 1
   have f2 : v9.frozen? ⟨gr, 2, none⟩ = false := FR.out.frozen 2
   have f3 : v9.frozen? ⟨gr, 3, none⟩ = false := FR.out.frozen 3
   go_wp2_with fail
   have NR := FR.out.put4 (.int .u64 (wd S 0 : Nat)) (.int .u64 (wd S 1 : Nat)) (.int .u64 (wd S 2 : Nat)) (.int .u64 (wd S 3 : Nat))
   have NB : Below w.heap.size w ((((v9.setCell ⟨gr, 0, none⟩ (.int .u64 (wd S 0 : Nat))).setCell ⟨gr, 1, none⟩ (.int .u64 (wd S 1 : Nat))).setCell ⟨gr, 2, none⟩ (.int .u64 (wd S 2 : Nat))).setCell ⟨gr, 3, none⟩ (.int .u64 (wd S 3 : Nat))) := (((BW.out.setCell Er _).setCell Er _).setCell Er _).setCell Er _
   clear d0 d1 d2 d3 f0 f1 f2 f3 FR BW
   generalize ((((v9.setCell ⟨gr, 0, none⟩ (.int .u64 (wd S 0 : Nat))).setCell ⟨gr, 1, none⟩ (.int .u64 (wd S 1 : Nat))).setCell ⟨gr, 2, none⟩ (.int .u64 (wd S 2 : Nat))).setCell ⟨gr, 3, none⟩ (.int .u64 (wd S 3 : Nat))) = WF at *
   have c0 : WF.cell? ⟨gr, 0, none⟩ = some (.int .u64 (wd S 0 : Nat)) := NR.cell 0
   have c1 : WF.cell? ⟨gr, 1, none⟩ = some (.int .u64 (wd S 1 : Nat)) := NR.cell 1
   have c2 : WF.cell? ⟨gr, 2, none⟩ = some (.int .u64 (wd S 2 : Nat)) := NR.cell 2
   have c3 : WF.cell? ⟨gr, 3, none⟩ = some (.int .u64 (wd S 3 : Nat)) := NR.cell 3
   have NBB := Lib.hid NB
   clear NB NR
   exact bodyPost_ret (v := .tuple #[num S, .int .u64 (cc : Nat)]) (by simp [results, Try.results47, go_sem, *]) rfl ⟨⟨S, cc, rfl, HSS.out, HLT.out, HCC.out⟩, NBB.out⟩

/-- as limbs does -/
theorem rsub_any (X Y S c : Nat) (hX : X < 2 ^ 256) (hY : Y < 2 ^ 256) (hS : S < 2 ^ 256) (hc : c ≤ 1) (he : X + 2 ^ 256 * c = S + Y) (w : World) : Calls Try.prog 47 #[num X, num Y] w fun e w' => e = .returned (.tuple #[num S, .int .u64 (c : Nat)]) ∧ Below w.heap.size w w' := by
 refine (rsub_walk X Y hX hY w).mono ?_
 rintro e w' ⟨⟨S', c'', rfl, h1, h2, h3⟩, hb⟩
 have e1 : S' = S ∧ c'' = c := by omega
 obtain ⟨rfl, rfl⟩ := e1
 exact ⟨rfl, hb⟩
end Go.Proofs.Ytodlpmepoakdlaa
