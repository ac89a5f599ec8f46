/-
  balefirelaw03.of, alive: the document's examples.
-/
import Derived.Test.YtgfgicpffajgdaaCommon
import Derived.Test.YtgfgicpffajgdaaEq
import Derived.Test.YtgfgicpffajgdaaChain
import Derived.Test.YtgfgicpffajgdaaLens
namespace Go.Proofs.Ytgfgicpffajgdaa
open Go.RowKit
attribute [local go_sem ↓] Go.wp_at_zero Go.wp_at_succ

theorem ofL_any (x : Nat) (hx : x < 18446744073709551616) (w : World) : Calls Try.prog 36 #[.int .u64 (x : Nat)] w fun e w' => e = .returned (num x) ∧ Below w.heap.size w w' := by
  have C := of_any x hx
  have HC := Lib.hid C
  clear C hx
  go_enter Try.func36, Try.ntmps36
  go_wp2_with fail
  have BW := Lib.hid (Below.refl w.heap.size w)
  have Nq : At (w.alloc (.cells #[.int .u64 0, .int .u64 0, .int .u64 0, .int .u64 0] 24)) (w.heap.size) 24 #[.int .u64 0, .int .u64 0, .int .u64 0, .int .u64 0] := At.at_ _ _ _ _ (by simp)
  have NB : Below w.heap.size w (w.alloc (.cells #[.int .u64 0, .int .u64 0, .int .u64 0, .int .u64 0] 24)) := gr_alloc BW.out _
  clear BW 
  generalize (w.alloc (.cells #[.int .u64 0, .int .u64 0, .int .u64 0, .int .u64 0] 24)) = W1 at *
  obtain ⟨gq, hg0⟩ : ∃ g, g = w.heap.size := ⟨_, rfl⟩
  rw [← hg0] at Nq ⊢
  have Eq : w.heap.size ≤ gq := by omega
  clear hg0
  have Fq := Lib.hid Nq
  have BW := Lib.hid NB
  clear NB Nq
  refine (HC.out _).mono ?_
  rintro e v2 ⟨rfl, z2⟩
  have Nq := Lib.hid (Fq.out.on z2)
  have NB := Lib.hid (bel_tr BW.out z2)
  clear BW z2 Fq
  have Fq := Nq
  have BW := NB
  clear NB Nq
  have Lq := Fq.out.lt
  have cq0 : v2.cell? ⟨gq, 0, none⟩ = some (.int .u64 0) := Fq.out.cell 0
  have cq1 : v2.cell? ⟨gq, 1, none⟩ = some (.int .u64 0) := Fq.out.cell 1
  have cq2 : v2.cell? ⟨gq, 2, none⟩ = some (.int .u64 0) := Fq.out.cell 2
  have cq3 : v2.cell? ⟨gq, 3, none⟩ = some (.int .u64 0) := Fq.out.cell 3
  have fq0 : v2.frozen? ⟨gq, 0, none⟩ = false := Fq.out.frozen 0
  have fq1 : v2.frozen? ⟨gq, 1, none⟩ = false := Fq.out.frozen 1
  have fq2 : v2.frozen? ⟨gq, 2, none⟩ = false := Fq.out.frozen 2
  have fq3 : v2.frozen? ⟨gq, 3, none⟩ = false := Fq.out.frozen 3
  go_wp2_with fail
  clear Lq cq0 cq1 cq2 cq3 fq0 fq1 fq2 fq3
  have Nq_0 : At ((((v2.setCell ⟨gq, 0, none⟩ (.int .u64 (wd x 0 : Nat))).setCell ⟨gq, 1, none⟩ (.int .u64 (wd x 1 : Nat))).setCell ⟨gq, 2, none⟩ (.int .u64 (wd x 2 : Nat))).setCell ⟨gq, 3, none⟩ (.int .u64 (wd x 3 : Nat))) gq 24 #[.int .u64 (wd x 0 : Nat), .int .u64 (wd x 1 : Nat), .int .u64 (wd x 2 : Nat), .int .u64 (wd x 3 : Nat)] := (Fq.out).put4 _ _ _ _
  have NB_0 : Below w.heap.size w ((((v2.setCell ⟨gq, 0, none⟩ (.int .u64 (wd x 0 : Nat))).setCell ⟨gq, 1, none⟩ (.int .u64 (wd x 1 : Nat))).setCell ⟨gq, 2, none⟩ (.int .u64 (wd x 2 : Nat))).setCell ⟨gq, 3, none⟩ (.int .u64 (wd x 3 : Nat))) := ((((BW.out).setCell Eq _).setCell Eq _).setCell Eq _).setCell Eq _
  have Nq := Nq_0
  have NB := NB_0
  clear BW Fq Nq_0 NB_0
  generalize ((((v2.setCell ⟨gq, 0, none⟩ (.int .u64 (wd x 0 : Nat))).setCell ⟨gq, 1, none⟩ (.int .u64 (wd x 1 : Nat))).setCell ⟨gq, 2, none⟩ (.int .u64 (wd x 2 : Nat))).setCell ⟨gq, 3, none⟩ (.int .u64 (wd x 3 : Nat))) = W3 at *
  have Fq := Lib.hid Nq
  have BW := Lib.hid NB
  clear NB Nq
  have Lq := Fq.out.lt
  have cq0 : W3.cell? ⟨gq, 0, none⟩ = some (.int .u64 (wd x 0 : Nat)) := Fq.out.cell 0
  have cq1 : W3.cell? ⟨gq, 1, none⟩ = some (.int .u64 (wd x 1 : Nat)) := Fq.out.cell 1
  have cq2 : W3.cell? ⟨gq, 2, none⟩ = some (.int .u64 (wd x 2 : Nat)) := Fq.out.cell 2
  have cq3 : W3.cell? ⟨gq, 3, none⟩ = some (.int .u64 (wd x 3 : Nat)) := Fq.out.cell 3
  exact bodyPost_ret (v := num x) (by simp [results, Try.results36, go_sem, *]) rfl ⟨rfl, BW.out⟩

theorem wide_val (A R M r q : Nat) (hA : A < 2 ^ 256) (hR : R < 2 ^ 256) (hM : M < 2 ^ 256) (hr : r < M) (h : R * 2 ^ 256 + A = q * M + r) : ∀ w, Calls Try.prog 32 #[num A, num R, num M] w fun e w' => e = .returned (.tuple #[num r, .int .i64 0]) ∧ Below w.heap.size w w' := by
  obtain ⟨r', h1, h2, C⟩ := wide_ex A R M hA hR hM (by omega)
  have : r' = r := by rw [h2]; unfold wide; rw [h, Nat.mul_comm, Nat.mul_add_mod, Nat.mod_eq_of_lt hr]
  subst this; exact C
theorem div_val (A B Q r : Nat) (hA : A < 2 ^ 256) (hB : B < 2 ^ 256) (hr : r < B) (h : A = Q * B + r) : ∀ w, Calls Try.prog 30 #[num A, num B] w fun e w' => e = .returned (.tuple #[num Q, num r, .int .i64 0]) ∧ Below w.heap.size w w' := by
  obtain ⟨Q', r', h0, h1, h2, C⟩ := div_ex A B hA hB (by omega)
  have hB0 : 0 < B := by omega
  have e1 : Q' = Q := by
    have a1 : A / B = Q' := by rw [h2, Nat.mul_comm, Nat.mul_add_div hB0, Nat.div_eq_of_lt h1, Nat.add_zero]
    have a2 : A / B = Q := by rw [h, Nat.mul_comm, Nat.mul_add_div hB0, Nat.div_eq_of_lt hr, Nat.add_zero]
    omega
  subst e1
  have e2 : r' = r := by omega
  subst e2; exact C

set_option maxRecDepth 100000 in
set_option maxHeartbeats 4000000 in
theorem alive3_walk (n17 n5 n3 n2 n1 n0 n7 n12 n18 n6 p2 : Nat)
    (On17 : ∀ w, Calls Try.prog 36 #[.int .u64 17] w fun e w' => e = .returned (num n17) ∧ Below w.heap.size w w')
    (On5 : ∀ w, Calls Try.prog 36 #[.int .u64 5] w fun e w' => e = .returned (num n5) ∧ Below w.heap.size w w')
    (On3 : ∀ w, Calls Try.prog 36 #[.int .u64 3] w fun e w' => e = .returned (num n3) ∧ Below w.heap.size w w')
    (On2 : ∀ w, Calls Try.prog 36 #[.int .u64 2] w fun e w' => e = .returned (num n2) ∧ Below w.heap.size w w')
    (On1 : ∀ w, Calls Try.prog 36 #[.int .u64 1] w fun e w' => e = .returned (num n1) ∧ Below w.heap.size w w')
    (On0 : ∀ w, Calls Try.prog 36 #[.int .u64 0] w fun e w' => e = .returned (num n0) ∧ Below w.heap.size w w')
    (On7 : ∀ w, Calls Try.prog 36 #[.int .u64 7] w fun e w' => e = .returned (num n7) ∧ Below w.heap.size w w')
    (On12 : ∀ w, Calls Try.prog 36 #[.int .u64 12] w fun e w' => e = .returned (num n12) ∧ Below w.heap.size w w')
    (On18 : ∀ w, Calls Try.prog 36 #[.int .u64 18] w fun e w' => e = .returned (num n18) ∧ Below w.heap.size w w')
    (On6 : ∀ w, Calls Try.prog 36 #[.int .u64 6] w fun e w' => e = .returned (num n6) ∧ Below w.heap.size w w')
    (D1 : ∀ w, Calls Try.prog 30 #[num n17, num n5] w fun e w' => e = .returned (.tuple #[num n3, num n2, .int .i64 0]) ∧ Below w.heap.size w w')
    (D2 : ∀ w, Calls Try.prog 30 #[.agg #[.int .u64 0, .int .u64 0, .int .u64 0, .int .u64 256], .agg #[.int .u64 0, .int .u64 68719476736, .int .u64 0, .int .u64 0]] w fun e w' => e = .returned (.tuple #[num p2, num n0, .int .i64 0]) ∧ Below w.heap.size w w')
    (D3 : ∀ w, Calls Try.prog 30 #[num n1, num n0] w fun e w' => e = .returned (.tuple #[num n0, num n0, .int .i64 1]) ∧ Below w.heap.size w w')
    (W1 : ∀ w, Calls Try.prog 32 #[num n5, num n1, .agg #[.int .u64 0, .int .u64 0, .int .u64 0, .int .u64 9223372036854775808]] w fun e w' => e = .returned (.tuple #[num n5, .int .i64 0]) ∧ Below w.heap.size w w')
    (W2 : ∀ w, Calls Try.prog 32 #[num n1, num n3, num n7] w fun e w' => e = .returned (.tuple #[num n0, .int .i64 0]) ∧ Below w.heap.size w w')
    (W3 : ∀ w, Calls Try.prog 32 #[num n1, num n3, num n0] w fun e w' => e = .returned (.tuple #[num n0, .int .i64 1]) ∧ Below w.heap.size w w')
    (G1 : ∀ w, Calls Try.prog 34 #[num n12, num n18] w fun e w' => e = .returned (num n6) ∧ Below w.heap.size w w')
    (G2 : ∀ w, Calls Try.prog 34 #[num n0, num n5] w fun e w' => e = .returned (num n5) ∧ Below w.heap.size w w')
    (G3 : ∀ w, Calls Try.prog 34 #[num n0, num n0] w fun e w' => e = .returned (num n0) ∧ Below w.heap.size w w')
    (EP : ∀ w : World, (Op.equalIn 10000 24 (num p2) (.agg #[.int .u64 0, .int .u64 68719476736, .int .u64 0, .int .u64 0])).run Try.prog w = .ok true w)
    (w : World) : Calls Try.prog 37 #[] w fun e w' => e = .returned (.bool true) ∧ Below w.heap.size w w' := by
  have HOn17 := Lib.hid On17
  clear On17
  have HOn5 := Lib.hid On5
  clear On5
  have HOn3 := Lib.hid On3
  clear On3
  have HOn2 := Lib.hid On2
  clear On2
  have HOn1 := Lib.hid On1
  clear On1
  have HOn0 := Lib.hid On0
  clear On0
  have HOn7 := Lib.hid On7
  clear On7
  have HOn12 := Lib.hid On12
  clear On12
  have HOn18 := Lib.hid On18
  clear On18
  have HOn6 := Lib.hid On6
  clear On6
  have HD1 := Lib.hid D1
  clear D1
  have HD2 := Lib.hid D2
  clear D2
  have HD3 := Lib.hid D3
  clear D3
  have HW1 := Lib.hid W1
  clear W1
  have HW2 := Lib.hid W2
  clear W2
  have HW3 := Lib.hid W3
  clear W3
  have HG1 := Lib.hid G1
  clear G1
  have HG2 := Lib.hid G2
  clear G2
  have HG3 := Lib.hid G3
  clear G3
  have qn3 := eqY n3
  have qn2 := eqY n2
  have qn0 := eqY n0
  have qn5 := eqY n5
  have qn6 := eqY n6
  go_enter Try.func37, Try.ntmps37
  go_wp2_with fail
  have BW := Lib.hid (Below.refl w.heap.size w)
  refine (HOn17.out _).mono ?_
  rintro e v1 ⟨rfl, z1⟩
  have NB := Lib.hid (bel_tr BW.out z1)
  clear BW z1 
  have BW := NB
  clear NB 
  go_wp2_with fail
  refine (HOn5.out _).mono ?_
  rintro e v2 ⟨rfl, z2⟩
  have NB := Lib.hid (bel_tr BW.out z2)
  clear BW z2 
  have BW := NB
  clear NB 
  go_wp2_with fail
  refine (HD1.out _).mono ?_
  rintro e v3 ⟨rfl, z3⟩
  have NB := Lib.hid (bel_tr BW.out z3)
  clear BW z3 
  have BW := NB
  clear NB 
  go_wp2_with fail
  have Na : At ((v3.alloc (.cells #[.int .u64 (wd n3 0 : Nat), .int .u64 (wd n3 1 : Nat), .int .u64 (wd n3 2 : Nat), .int .u64 (wd n3 3 : Nat)] 24)).alloc (.cells #[.int .u64 (wd n2 0 : Nat), .int .u64 (wd n2 1 : Nat), .int .u64 (wd n2 2 : Nat), .int .u64 (wd n2 3 : Nat)] 24)) (v3.heap.size) 24 #[.int .u64 (wd n3 0 : Nat), .int .u64 (wd n3 1 : Nat), .int .u64 (wd n3 2 : Nat), .int .u64 (wd n3 3 : Nat)] := (At.at_ _ _ _ _ (by simp)).alloc _
  have Nb : At ((v3.alloc (.cells #[.int .u64 (wd n3 0 : Nat), .int .u64 (wd n3 1 : Nat), .int .u64 (wd n3 2 : Nat), .int .u64 (wd n3 3 : Nat)] 24)).alloc (.cells #[.int .u64 (wd n2 0 : Nat), .int .u64 (wd n2 1 : Nat), .int .u64 (wd n2 2 : Nat), .int .u64 (wd n2 3 : Nat)] 24)) (v3.heap.size + 1) 24 #[.int .u64 (wd n2 0 : Nat), .int .u64 (wd n2 1 : Nat), .int .u64 (wd n2 2 : Nat), .int .u64 (wd n2 3 : Nat)] := At.at_ _ _ _ _ (by simp)
  have NB : Below w.heap.size w ((v3.alloc (.cells #[.int .u64 (wd n3 0 : Nat), .int .u64 (wd n3 1 : Nat), .int .u64 (wd n3 2 : Nat), .int .u64 (wd n3 3 : Nat)] 24)).alloc (.cells #[.int .u64 (wd n2 0 : Nat), .int .u64 (wd n2 1 : Nat), .int .u64 (wd n2 2 : Nat), .int .u64 (wd n2 3 : Nat)] 24)) := gr_alloc (gr_alloc BW.out _) _
  clear BW 
  generalize ((v3.alloc (.cells #[.int .u64 (wd n3 0 : Nat), .int .u64 (wd n3 1 : Nat), .int .u64 (wd n3 2 : Nat), .int .u64 (wd n3 3 : Nat)] 24)).alloc (.cells #[.int .u64 (wd n2 0 : Nat), .int .u64 (wd n2 1 : Nat), .int .u64 (wd n2 2 : Nat), .int .u64 (wd n2 3 : Nat)] 24)) = W4 at *
  generalize v3.heap.size + 1 = gb at *
  generalize v3.heap.size = ga at *
  have Fa := Lib.hid Na
  have Fb := Lib.hid Nb
  have BW := Lib.hid NB
  clear NB Na Nb
  refine (HD2.out _).mono ?_
  rintro e v5 ⟨rfl, z5⟩
  have Na := Lib.hid (Fa.out.on z5)
  have Nb := Lib.hid (Fb.out.on z5)
  have NB := Lib.hid (bel_tr BW.out z5)
  clear BW z5 Fa Fb
  have Fa := Na
  have Fb := Nb
  have BW := NB
  clear NB Na Nb
  go_wp2_with fail
  have Nc : At ((v5.alloc (.cells #[.int .u64 (wd p2 0 : Nat), .int .u64 (wd p2 1 : Nat), .int .u64 (wd p2 2 : Nat), .int .u64 (wd p2 3 : Nat)] 24)).alloc (.cells #[.int .u64 (wd n0 0 : Nat), .int .u64 (wd n0 1 : Nat), .int .u64 (wd n0 2 : Nat), .int .u64 (wd n0 3 : Nat)] 24)) (v5.heap.size) 24 #[.int .u64 (wd p2 0 : Nat), .int .u64 (wd p2 1 : Nat), .int .u64 (wd p2 2 : Nat), .int .u64 (wd p2 3 : Nat)] := (At.at_ _ _ _ _ (by simp)).alloc _
  have Nd : At ((v5.alloc (.cells #[.int .u64 (wd p2 0 : Nat), .int .u64 (wd p2 1 : Nat), .int .u64 (wd p2 2 : Nat), .int .u64 (wd p2 3 : Nat)] 24)).alloc (.cells #[.int .u64 (wd n0 0 : Nat), .int .u64 (wd n0 1 : Nat), .int .u64 (wd n0 2 : Nat), .int .u64 (wd n0 3 : Nat)] 24)) (v5.heap.size + 1) 24 #[.int .u64 (wd n0 0 : Nat), .int .u64 (wd n0 1 : Nat), .int .u64 (wd n0 2 : Nat), .int .u64 (wd n0 3 : Nat)] := At.at_ _ _ _ _ (by simp)
  have Na : At ((v5.alloc (.cells #[.int .u64 (wd p2 0 : Nat), .int .u64 (wd p2 1 : Nat), .int .u64 (wd p2 2 : Nat), .int .u64 (wd p2 3 : Nat)] 24)).alloc (.cells #[.int .u64 (wd n0 0 : Nat), .int .u64 (wd n0 1 : Nat), .int .u64 (wd n0 2 : Nat), .int .u64 (wd n0 3 : Nat)] 24)) ga 24 #[.int .u64 (wd n3 0 : Nat), .int .u64 (wd n3 1 : Nat), .int .u64 (wd n3 2 : Nat), .int .u64 (wd n3 3 : Nat)] := (Fa.out.alloc _).alloc _
  have Nb : At ((v5.alloc (.cells #[.int .u64 (wd p2 0 : Nat), .int .u64 (wd p2 1 : Nat), .int .u64 (wd p2 2 : Nat), .int .u64 (wd p2 3 : Nat)] 24)).alloc (.cells #[.int .u64 (wd n0 0 : Nat), .int .u64 (wd n0 1 : Nat), .int .u64 (wd n0 2 : Nat), .int .u64 (wd n0 3 : Nat)] 24)) gb 24 #[.int .u64 (wd n2 0 : Nat), .int .u64 (wd n2 1 : Nat), .int .u64 (wd n2 2 : Nat), .int .u64 (wd n2 3 : Nat)] := (Fb.out.alloc _).alloc _
  have NB : Below w.heap.size w ((v5.alloc (.cells #[.int .u64 (wd p2 0 : Nat), .int .u64 (wd p2 1 : Nat), .int .u64 (wd p2 2 : Nat), .int .u64 (wd p2 3 : Nat)] 24)).alloc (.cells #[.int .u64 (wd n0 0 : Nat), .int .u64 (wd n0 1 : Nat), .int .u64 (wd n0 2 : Nat), .int .u64 (wd n0 3 : Nat)] 24)) := gr_alloc (gr_alloc BW.out _) _
  clear BW Fa Fb
  generalize ((v5.alloc (.cells #[.int .u64 (wd p2 0 : Nat), .int .u64 (wd p2 1 : Nat), .int .u64 (wd p2 2 : Nat), .int .u64 (wd p2 3 : Nat)] 24)).alloc (.cells #[.int .u64 (wd n0 0 : Nat), .int .u64 (wd n0 1 : Nat), .int .u64 (wd n0 2 : Nat), .int .u64 (wd n0 3 : Nat)] 24)) = W6 at *
  generalize v5.heap.size + 1 = gd at *
  generalize v5.heap.size = gc at *
  have Fa := Lib.hid Na
  have Fb := Lib.hid Nb
  have Fc := Lib.hid Nc
  have Fd := Lib.hid Nd
  have BW := Lib.hid NB
  clear NB Na Nb Nc Nd
  refine (HOn1.out _).mono ?_
  rintro e v7 ⟨rfl, z7⟩
  have Na := Lib.hid (Fa.out.on z7)
  have Nb := Lib.hid (Fb.out.on z7)
  have Nc := Lib.hid (Fc.out.on z7)
  have Nd := Lib.hid (Fd.out.on z7)
  have NB := Lib.hid (bel_tr BW.out z7)
  clear BW z7 Fa Fb Fc Fd
  have Fa := Na
  have Fb := Nb
  have Fc := Nc
  have Fd := Nd
  have BW := NB
  clear NB Na Nb Nc Nd
  go_wp2_with fail
  refine (HOn0.out _).mono ?_
  rintro e v8 ⟨rfl, z8⟩
  have Na := Lib.hid (Fa.out.on z8)
  have Nb := Lib.hid (Fb.out.on z8)
  have Nc := Lib.hid (Fc.out.on z8)
  have Nd := Lib.hid (Fd.out.on z8)
  have NB := Lib.hid (bel_tr BW.out z8)
  clear BW z8 Fa Fb Fc Fd
  have Fa := Na
  have Fb := Nb
  have Fc := Nc
  have Fd := Nd
  have BW := NB
  clear NB Na Nb Nc Nd
  go_wp2_with fail
  refine (HD3.out _).mono ?_
  rintro e v9 ⟨rfl, z9⟩
  have Na := Lib.hid (Fa.out.on z9)
  have Nb := Lib.hid (Fb.out.on z9)
  have Nc := Lib.hid (Fc.out.on z9)
  have Nd := Lib.hid (Fd.out.on z9)
  have NB := Lib.hid (bel_tr BW.out z9)
  clear BW z9 Fa Fb Fc Fd
  have Fa := Na
  have Fb := Nb
  have Fc := Nc
  have Fd := Nd
  have BW := NB
  clear NB Na Nb Nc Nd
  go_wp2_with fail
  have Nf1 : At ((v9.alloc (.cells #[.int .u64 (wd n0 0 : Nat), .int .u64 (wd n0 1 : Nat), .int .u64 (wd n0 2 : Nat), .int .u64 (wd n0 3 : Nat)] 24)).alloc (.cells #[.int .u64 (wd n0 0 : Nat), .int .u64 (wd n0 1 : Nat), .int .u64 (wd n0 2 : Nat), .int .u64 (wd n0 3 : Nat)] 24)) (v9.heap.size) 24 #[.int .u64 (wd n0 0 : Nat), .int .u64 (wd n0 1 : Nat), .int .u64 (wd n0 2 : Nat), .int .u64 (wd n0 3 : Nat)] := (At.at_ _ _ _ _ (by simp)).alloc _
  have Nf2 : At ((v9.alloc (.cells #[.int .u64 (wd n0 0 : Nat), .int .u64 (wd n0 1 : Nat), .int .u64 (wd n0 2 : Nat), .int .u64 (wd n0 3 : Nat)] 24)).alloc (.cells #[.int .u64 (wd n0 0 : Nat), .int .u64 (wd n0 1 : Nat), .int .u64 (wd n0 2 : Nat), .int .u64 (wd n0 3 : Nat)] 24)) (v9.heap.size + 1) 24 #[.int .u64 (wd n0 0 : Nat), .int .u64 (wd n0 1 : Nat), .int .u64 (wd n0 2 : Nat), .int .u64 (wd n0 3 : Nat)] := At.at_ _ _ _ _ (by simp)
  have Na : At ((v9.alloc (.cells #[.int .u64 (wd n0 0 : Nat), .int .u64 (wd n0 1 : Nat), .int .u64 (wd n0 2 : Nat), .int .u64 (wd n0 3 : Nat)] 24)).alloc (.cells #[.int .u64 (wd n0 0 : Nat), .int .u64 (wd n0 1 : Nat), .int .u64 (wd n0 2 : Nat), .int .u64 (wd n0 3 : Nat)] 24)) ga 24 #[.int .u64 (wd n3 0 : Nat), .int .u64 (wd n3 1 : Nat), .int .u64 (wd n3 2 : Nat), .int .u64 (wd n3 3 : Nat)] := (Fa.out.alloc _).alloc _
  have Nb : At ((v9.alloc (.cells #[.int .u64 (wd n0 0 : Nat), .int .u64 (wd n0 1 : Nat), .int .u64 (wd n0 2 : Nat), .int .u64 (wd n0 3 : Nat)] 24)).alloc (.cells #[.int .u64 (wd n0 0 : Nat), .int .u64 (wd n0 1 : Nat), .int .u64 (wd n0 2 : Nat), .int .u64 (wd n0 3 : Nat)] 24)) gb 24 #[.int .u64 (wd n2 0 : Nat), .int .u64 (wd n2 1 : Nat), .int .u64 (wd n2 2 : Nat), .int .u64 (wd n2 3 : Nat)] := (Fb.out.alloc _).alloc _
  have Nc : At ((v9.alloc (.cells #[.int .u64 (wd n0 0 : Nat), .int .u64 (wd n0 1 : Nat), .int .u64 (wd n0 2 : Nat), .int .u64 (wd n0 3 : Nat)] 24)).alloc (.cells #[.int .u64 (wd n0 0 : Nat), .int .u64 (wd n0 1 : Nat), .int .u64 (wd n0 2 : Nat), .int .u64 (wd n0 3 : Nat)] 24)) gc 24 #[.int .u64 (wd p2 0 : Nat), .int .u64 (wd p2 1 : Nat), .int .u64 (wd p2 2 : Nat), .int .u64 (wd p2 3 : Nat)] := (Fc.out.alloc _).alloc _
  have Nd : At ((v9.alloc (.cells #[.int .u64 (wd n0 0 : Nat), .int .u64 (wd n0 1 : Nat), .int .u64 (wd n0 2 : Nat), .int .u64 (wd n0 3 : Nat)] 24)).alloc (.cells #[.int .u64 (wd n0 0 : Nat), .int .u64 (wd n0 1 : Nat), .int .u64 (wd n0 2 : Nat), .int .u64 (wd n0 3 : Nat)] 24)) gd 24 #[.int .u64 (wd n0 0 : Nat), .int .u64 (wd n0 1 : Nat), .int .u64 (wd n0 2 : Nat), .int .u64 (wd n0 3 : Nat)] := (Fd.out.alloc _).alloc _
  have NB : Below w.heap.size w ((v9.alloc (.cells #[.int .u64 (wd n0 0 : Nat), .int .u64 (wd n0 1 : Nat), .int .u64 (wd n0 2 : Nat), .int .u64 (wd n0 3 : Nat)] 24)).alloc (.cells #[.int .u64 (wd n0 0 : Nat), .int .u64 (wd n0 1 : Nat), .int .u64 (wd n0 2 : Nat), .int .u64 (wd n0 3 : Nat)] 24)) := gr_alloc (gr_alloc BW.out _) _
  clear BW Fa Fb Fc Fd
  generalize ((v9.alloc (.cells #[.int .u64 (wd n0 0 : Nat), .int .u64 (wd n0 1 : Nat), .int .u64 (wd n0 2 : Nat), .int .u64 (wd n0 3 : Nat)] 24)).alloc (.cells #[.int .u64 (wd n0 0 : Nat), .int .u64 (wd n0 1 : Nat), .int .u64 (wd n0 2 : Nat), .int .u64 (wd n0 3 : Nat)] 24)) = W10 at *
  generalize v9.heap.size + 1 = gf2 at *
  generalize v9.heap.size = gf1 at *
  have Fa := Lib.hid Na
  have Fb := Lib.hid Nb
  have Fc := Lib.hid Nc
  have Fd := Lib.hid Nd
  have Ff1 := Lib.hid Nf1
  have Ff2 := Lib.hid Nf2
  have BW := Lib.hid NB
  clear NB Na Nb Nc Nd Nf1 Nf2
  refine (HOn5.out _).mono ?_
  rintro e v11 ⟨rfl, z11⟩
  have Na := Lib.hid (Fa.out.on z11)
  have Nb := Lib.hid (Fb.out.on z11)
  have Nc := Lib.hid (Fc.out.on z11)
  have Nd := Lib.hid (Fd.out.on z11)
  have Nf1 := Lib.hid (Ff1.out.on z11)
  have Nf2 := Lib.hid (Ff2.out.on z11)
  have NB := Lib.hid (bel_tr BW.out z11)
  clear BW z11 Fa Fb Fc Fd Ff1 Ff2
  have Fa := Na
  have Fb := Nb
  have Fc := Nc
  have Fd := Nd
  have Ff1 := Nf1
  have Ff2 := Nf2
  have BW := NB
  clear NB Na Nb Nc Nd Nf1 Nf2
  clear Ff1
  clear Ff2
  go_wp2_with fail
  refine (HOn1.out _).mono ?_
  rintro e v12 ⟨rfl, z12⟩
  have Na := Lib.hid (Fa.out.on z12)
  have Nb := Lib.hid (Fb.out.on z12)
  have Nc := Lib.hid (Fc.out.on z12)
  have Nd := Lib.hid (Fd.out.on z12)
  have NB := Lib.hid (bel_tr BW.out z12)
  clear BW z12 Fa Fb Fc Fd
  have Fa := Na
  have Fb := Nb
  have Fc := Nc
  have Fd := Nd
  have BW := NB
  clear NB Na Nb Nc Nd
  go_wp2_with fail
  refine (HW1.out _).mono ?_
  rintro e v13 ⟨rfl, z13⟩
  have Na := Lib.hid (Fa.out.on z13)
  have Nb := Lib.hid (Fb.out.on z13)
  have Nc := Lib.hid (Fc.out.on z13)
  have Nd := Lib.hid (Fd.out.on z13)
  have NB := Lib.hid (bel_tr BW.out z13)
  clear BW z13 Fa Fb Fc Fd
  have Fa := Na
  have Fb := Nb
  have Fc := Nc
  have Fd := Nd
  have BW := NB
  clear NB Na Nb Nc Nd
  go_wp2_with fail
  have Nx : At (v13.alloc (.cells #[.int .u64 (wd n5 0 : Nat), .int .u64 (wd n5 1 : Nat), .int .u64 (wd n5 2 : Nat), .int .u64 (wd n5 3 : Nat)] 24)) (v13.heap.size) 24 #[.int .u64 (wd n5 0 : Nat), .int .u64 (wd n5 1 : Nat), .int .u64 (wd n5 2 : Nat), .int .u64 (wd n5 3 : Nat)] := At.at_ _ _ _ _ (by simp)
  have Na : At (v13.alloc (.cells #[.int .u64 (wd n5 0 : Nat), .int .u64 (wd n5 1 : Nat), .int .u64 (wd n5 2 : Nat), .int .u64 (wd n5 3 : Nat)] 24)) ga 24 #[.int .u64 (wd n3 0 : Nat), .int .u64 (wd n3 1 : Nat), .int .u64 (wd n3 2 : Nat), .int .u64 (wd n3 3 : Nat)] := Fa.out.alloc _
  have Nb : At (v13.alloc (.cells #[.int .u64 (wd n5 0 : Nat), .int .u64 (wd n5 1 : Nat), .int .u64 (wd n5 2 : Nat), .int .u64 (wd n5 3 : Nat)] 24)) gb 24 #[.int .u64 (wd n2 0 : Nat), .int .u64 (wd n2 1 : Nat), .int .u64 (wd n2 2 : Nat), .int .u64 (wd n2 3 : Nat)] := Fb.out.alloc _
  have Nc : At (v13.alloc (.cells #[.int .u64 (wd n5 0 : Nat), .int .u64 (wd n5 1 : Nat), .int .u64 (wd n5 2 : Nat), .int .u64 (wd n5 3 : Nat)] 24)) gc 24 #[.int .u64 (wd p2 0 : Nat), .int .u64 (wd p2 1 : Nat), .int .u64 (wd p2 2 : Nat), .int .u64 (wd p2 3 : Nat)] := Fc.out.alloc _
  have Nd : At (v13.alloc (.cells #[.int .u64 (wd n5 0 : Nat), .int .u64 (wd n5 1 : Nat), .int .u64 (wd n5 2 : Nat), .int .u64 (wd n5 3 : Nat)] 24)) gd 24 #[.int .u64 (wd n0 0 : Nat), .int .u64 (wd n0 1 : Nat), .int .u64 (wd n0 2 : Nat), .int .u64 (wd n0 3 : Nat)] := Fd.out.alloc _
  have NB : Below w.heap.size w (v13.alloc (.cells #[.int .u64 (wd n5 0 : Nat), .int .u64 (wd n5 1 : Nat), .int .u64 (wd n5 2 : Nat), .int .u64 (wd n5 3 : Nat)] 24)) := gr_alloc BW.out _
  clear BW Fa Fb Fc Fd
  generalize (v13.alloc (.cells #[.int .u64 (wd n5 0 : Nat), .int .u64 (wd n5 1 : Nat), .int .u64 (wd n5 2 : Nat), .int .u64 (wd n5 3 : Nat)] 24)) = W14 at *
  generalize v13.heap.size = gx at *
  have Fa := Lib.hid Na
  have Fb := Lib.hid Nb
  have Fc := Lib.hid Nc
  have Fd := Lib.hid Nd
  have Fx := Lib.hid Nx
  have BW := Lib.hid NB
  clear NB Na Nb Nc Nd Nx
  refine (HOn1.out _).mono ?_
  rintro e v15 ⟨rfl, z15⟩
  have Na := Lib.hid (Fa.out.on z15)
  have Nb := Lib.hid (Fb.out.on z15)
  have Nc := Lib.hid (Fc.out.on z15)
  have Nd := Lib.hid (Fd.out.on z15)
  have Nx := Lib.hid (Fx.out.on z15)
  have NB := Lib.hid (bel_tr BW.out z15)
  clear BW z15 Fa Fb Fc Fd Fx
  have Fa := Na
  have Fb := Nb
  have Fc := Nc
  have Fd := Nd
  have Fx := Nx
  have BW := NB
  clear NB Na Nb Nc Nd Nx
  go_wp2_with fail
  refine (HOn3.out _).mono ?_
  rintro e v16 ⟨rfl, z16⟩
  have Na := Lib.hid (Fa.out.on z16)
  have Nb := Lib.hid (Fb.out.on z16)
  have Nc := Lib.hid (Fc.out.on z16)
  have Nd := Lib.hid (Fd.out.on z16)
  have Nx := Lib.hid (Fx.out.on z16)
  have NB := Lib.hid (bel_tr BW.out z16)
  clear BW z16 Fa Fb Fc Fd Fx
  have Fa := Na
  have Fb := Nb
  have Fc := Nc
  have Fd := Nd
  have Fx := Nx
  have BW := NB
  clear NB Na Nb Nc Nd Nx
  go_wp2_with fail
  refine (HOn7.out _).mono ?_
  rintro e v17 ⟨rfl, z17⟩
  have Na := Lib.hid (Fa.out.on z17)
  have Nb := Lib.hid (Fb.out.on z17)
  have Nc := Lib.hid (Fc.out.on z17)
  have Nd := Lib.hid (Fd.out.on z17)
  have Nx := Lib.hid (Fx.out.on z17)
  have NB := Lib.hid (bel_tr BW.out z17)
  clear BW z17 Fa Fb Fc Fd Fx
  have Fa := Na
  have Fb := Nb
  have Fc := Nc
  have Fd := Nd
  have Fx := Nx
  have BW := NB
  clear NB Na Nb Nc Nd Nx
  go_wp2_with fail
  refine (HW2.out _).mono ?_
  rintro e v18 ⟨rfl, z18⟩
  have Na := Lib.hid (Fa.out.on z18)
  have Nb := Lib.hid (Fb.out.on z18)
  have Nc := Lib.hid (Fc.out.on z18)
  have Nd := Lib.hid (Fd.out.on z18)
  have Nx := Lib.hid (Fx.out.on z18)
  have NB := Lib.hid (bel_tr BW.out z18)
  clear BW z18 Fa Fb Fc Fd Fx
  have Fa := Na
  have Fb := Nb
  have Fc := Nc
  have Fd := Nd
  have Fx := Nx
  have BW := NB
  clear NB Na Nb Nc Nd Nx
  go_wp2_with fail
  have Ny : At (v18.alloc (.cells #[.int .u64 (wd n0 0 : Nat), .int .u64 (wd n0 1 : Nat), .int .u64 (wd n0 2 : Nat), .int .u64 (wd n0 3 : Nat)] 24)) (v18.heap.size) 24 #[.int .u64 (wd n0 0 : Nat), .int .u64 (wd n0 1 : Nat), .int .u64 (wd n0 2 : Nat), .int .u64 (wd n0 3 : Nat)] := At.at_ _ _ _ _ (by simp)
  have Na : At (v18.alloc (.cells #[.int .u64 (wd n0 0 : Nat), .int .u64 (wd n0 1 : Nat), .int .u64 (wd n0 2 : Nat), .int .u64 (wd n0 3 : Nat)] 24)) ga 24 #[.int .u64 (wd n3 0 : Nat), .int .u64 (wd n3 1 : Nat), .int .u64 (wd n3 2 : Nat), .int .u64 (wd n3 3 : Nat)] := Fa.out.alloc _
  have Nb : At (v18.alloc (.cells #[.int .u64 (wd n0 0 : Nat), .int .u64 (wd n0 1 : Nat), .int .u64 (wd n0 2 : Nat), .int .u64 (wd n0 3 : Nat)] 24)) gb 24 #[.int .u64 (wd n2 0 : Nat), .int .u64 (wd n2 1 : Nat), .int .u64 (wd n2 2 : Nat), .int .u64 (wd n2 3 : Nat)] := Fb.out.alloc _
  have Nc : At (v18.alloc (.cells #[.int .u64 (wd n0 0 : Nat), .int .u64 (wd n0 1 : Nat), .int .u64 (wd n0 2 : Nat), .int .u64 (wd n0 3 : Nat)] 24)) gc 24 #[.int .u64 (wd p2 0 : Nat), .int .u64 (wd p2 1 : Nat), .int .u64 (wd p2 2 : Nat), .int .u64 (wd p2 3 : Nat)] := Fc.out.alloc _
  have Nd : At (v18.alloc (.cells #[.int .u64 (wd n0 0 : Nat), .int .u64 (wd n0 1 : Nat), .int .u64 (wd n0 2 : Nat), .int .u64 (wd n0 3 : Nat)] 24)) gd 24 #[.int .u64 (wd n0 0 : Nat), .int .u64 (wd n0 1 : Nat), .int .u64 (wd n0 2 : Nat), .int .u64 (wd n0 3 : Nat)] := Fd.out.alloc _
  have Nx : At (v18.alloc (.cells #[.int .u64 (wd n0 0 : Nat), .int .u64 (wd n0 1 : Nat), .int .u64 (wd n0 2 : Nat), .int .u64 (wd n0 3 : Nat)] 24)) gx 24 #[.int .u64 (wd n5 0 : Nat), .int .u64 (wd n5 1 : Nat), .int .u64 (wd n5 2 : Nat), .int .u64 (wd n5 3 : Nat)] := Fx.out.alloc _
  have NB : Below w.heap.size w (v18.alloc (.cells #[.int .u64 (wd n0 0 : Nat), .int .u64 (wd n0 1 : Nat), .int .u64 (wd n0 2 : Nat), .int .u64 (wd n0 3 : Nat)] 24)) := gr_alloc BW.out _
  clear BW Fa Fb Fc Fd Fx
  generalize (v18.alloc (.cells #[.int .u64 (wd n0 0 : Nat), .int .u64 (wd n0 1 : Nat), .int .u64 (wd n0 2 : Nat), .int .u64 (wd n0 3 : Nat)] 24)) = W19 at *
  generalize v18.heap.size = gy at *
  have Fa := Lib.hid Na
  have Fb := Lib.hid Nb
  have Fc := Lib.hid Nc
  have Fd := Lib.hid Nd
  have Fx := Lib.hid Nx
  have Fy := Lib.hid Ny
  have BW := Lib.hid NB
  clear NB Na Nb Nc Nd Nx Ny
  refine (HOn1.out _).mono ?_
  rintro e v20 ⟨rfl, z20⟩
  have Na := Lib.hid (Fa.out.on z20)
  have Nb := Lib.hid (Fb.out.on z20)
  have Nc := Lib.hid (Fc.out.on z20)
  have Nd := Lib.hid (Fd.out.on z20)
  have Nx := Lib.hid (Fx.out.on z20)
  have Ny := Lib.hid (Fy.out.on z20)
  have NB := Lib.hid (bel_tr BW.out z20)
  clear BW z20 Fa Fb Fc Fd Fx Fy
  have Fa := Na
  have Fb := Nb
  have Fc := Nc
  have Fd := Nd
  have Fx := Nx
  have Fy := Ny
  have BW := NB
  clear NB Na Nb Nc Nd Nx Ny
  go_wp2_with fail
  refine (HOn3.out _).mono ?_
  rintro e v21 ⟨rfl, z21⟩
  have Na := Lib.hid (Fa.out.on z21)
  have Nb := Lib.hid (Fb.out.on z21)
  have Nc := Lib.hid (Fc.out.on z21)
  have Nd := Lib.hid (Fd.out.on z21)
  have Nx := Lib.hid (Fx.out.on z21)
  have Ny := Lib.hid (Fy.out.on z21)
  have NB := Lib.hid (bel_tr BW.out z21)
  clear BW z21 Fa Fb Fc Fd Fx Fy
  have Fa := Na
  have Fb := Nb
  have Fc := Nc
  have Fd := Nd
  have Fx := Nx
  have Fy := Ny
  have BW := NB
  clear NB Na Nb Nc Nd Nx Ny
  go_wp2_with fail
  refine (HOn0.out _).mono ?_
  rintro e v22 ⟨rfl, z22⟩
  have Na := Lib.hid (Fa.out.on z22)
  have Nb := Lib.hid (Fb.out.on z22)
  have Nc := Lib.hid (Fc.out.on z22)
  have Nd := Lib.hid (Fd.out.on z22)
  have Nx := Lib.hid (Fx.out.on z22)
  have Ny := Lib.hid (Fy.out.on z22)
  have NB := Lib.hid (bel_tr BW.out z22)
  clear BW z22 Fa Fb Fc Fd Fx Fy
  have Fa := Na
  have Fb := Nb
  have Fc := Nc
  have Fd := Nd
  have Fx := Nx
  have Fy := Ny
  have BW := NB
  clear NB Na Nb Nc Nd Nx Ny
  go_wp2_with fail
  refine (HW3.out _).mono ?_
  rintro e v23 ⟨rfl, z23⟩
  have Na := Lib.hid (Fa.out.on z23)
  have Nb := Lib.hid (Fb.out.on z23)
  have Nc := Lib.hid (Fc.out.on z23)
  have Nd := Lib.hid (Fd.out.on z23)
  have Nx := Lib.hid (Fx.out.on z23)
  have Ny := Lib.hid (Fy.out.on z23)
  have NB := Lib.hid (bel_tr BW.out z23)
  clear BW z23 Fa Fb Fc Fd Fx Fy
  have Fa := Na
  have Fb := Nb
  have Fc := Nc
  have Fd := Nd
  have Fx := Nx
  have Fy := Ny
  have BW := NB
  clear NB Na Nb Nc Nd Nx Ny
  go_wp2_with fail
  have Nz : At (v23.alloc (.cells #[.int .u64 (wd n0 0 : Nat), .int .u64 (wd n0 1 : Nat), .int .u64 (wd n0 2 : Nat), .int .u64 (wd n0 3 : Nat)] 24)) (v23.heap.size) 24 #[.int .u64 (wd n0 0 : Nat), .int .u64 (wd n0 1 : Nat), .int .u64 (wd n0 2 : Nat), .int .u64 (wd n0 3 : Nat)] := At.at_ _ _ _ _ (by simp)
  have Na : At (v23.alloc (.cells #[.int .u64 (wd n0 0 : Nat), .int .u64 (wd n0 1 : Nat), .int .u64 (wd n0 2 : Nat), .int .u64 (wd n0 3 : Nat)] 24)) ga 24 #[.int .u64 (wd n3 0 : Nat), .int .u64 (wd n3 1 : Nat), .int .u64 (wd n3 2 : Nat), .int .u64 (wd n3 3 : Nat)] := Fa.out.alloc _
  have Nb : At (v23.alloc (.cells #[.int .u64 (wd n0 0 : Nat), .int .u64 (wd n0 1 : Nat), .int .u64 (wd n0 2 : Nat), .int .u64 (wd n0 3 : Nat)] 24)) gb 24 #[.int .u64 (wd n2 0 : Nat), .int .u64 (wd n2 1 : Nat), .int .u64 (wd n2 2 : Nat), .int .u64 (wd n2 3 : Nat)] := Fb.out.alloc _
  have Nc : At (v23.alloc (.cells #[.int .u64 (wd n0 0 : Nat), .int .u64 (wd n0 1 : Nat), .int .u64 (wd n0 2 : Nat), .int .u64 (wd n0 3 : Nat)] 24)) gc 24 #[.int .u64 (wd p2 0 : Nat), .int .u64 (wd p2 1 : Nat), .int .u64 (wd p2 2 : Nat), .int .u64 (wd p2 3 : Nat)] := Fc.out.alloc _
  have Nd : At (v23.alloc (.cells #[.int .u64 (wd n0 0 : Nat), .int .u64 (wd n0 1 : Nat), .int .u64 (wd n0 2 : Nat), .int .u64 (wd n0 3 : Nat)] 24)) gd 24 #[.int .u64 (wd n0 0 : Nat), .int .u64 (wd n0 1 : Nat), .int .u64 (wd n0 2 : Nat), .int .u64 (wd n0 3 : Nat)] := Fd.out.alloc _
  have Nx : At (v23.alloc (.cells #[.int .u64 (wd n0 0 : Nat), .int .u64 (wd n0 1 : Nat), .int .u64 (wd n0 2 : Nat), .int .u64 (wd n0 3 : Nat)] 24)) gx 24 #[.int .u64 (wd n5 0 : Nat), .int .u64 (wd n5 1 : Nat), .int .u64 (wd n5 2 : Nat), .int .u64 (wd n5 3 : Nat)] := Fx.out.alloc _
  have Ny : At (v23.alloc (.cells #[.int .u64 (wd n0 0 : Nat), .int .u64 (wd n0 1 : Nat), .int .u64 (wd n0 2 : Nat), .int .u64 (wd n0 3 : Nat)] 24)) gy 24 #[.int .u64 (wd n0 0 : Nat), .int .u64 (wd n0 1 : Nat), .int .u64 (wd n0 2 : Nat), .int .u64 (wd n0 3 : Nat)] := Fy.out.alloc _
  have NB : Below w.heap.size w (v23.alloc (.cells #[.int .u64 (wd n0 0 : Nat), .int .u64 (wd n0 1 : Nat), .int .u64 (wd n0 2 : Nat), .int .u64 (wd n0 3 : Nat)] 24)) := gr_alloc BW.out _
  clear BW Fa Fb Fc Fd Fx Fy
  generalize (v23.alloc (.cells #[.int .u64 (wd n0 0 : Nat), .int .u64 (wd n0 1 : Nat), .int .u64 (wd n0 2 : Nat), .int .u64 (wd n0 3 : Nat)] 24)) = W24 at *
  generalize v23.heap.size = gz at *
  have Fa := Lib.hid Na
  have Fb := Lib.hid Nb
  have Fc := Lib.hid Nc
  have Fd := Lib.hid Nd
  have Fx := Lib.hid Nx
  have Fy := Lib.hid Ny
  have Fz := Lib.hid Nz
  have BW := Lib.hid NB
  clear NB Na Nb Nc Nd Nx Ny Nz
  clear Fz
  try simp only [List.append_eq, List.cons_append, List.nil_append]
  refine wp_region_noPanic ?_
  refine wp_region_held_drew (S := fun w' => At w' ga 24 #[.int .u64 (wd n3 0 : Nat), .int .u64 (wd n3 1 : Nat), .int .u64 (wd n3 2 : Nat), .int .u64 (wd n3 3 : Nat)] ∧ At w' gb 24 #[.int .u64 (wd n2 0 : Nat), .int .u64 (wd n2 1 : Nat), .int .u64 (wd n2 2 : Nat), .int .u64 (wd n2 3 : Nat)] ∧ At w' gc 24 #[.int .u64 (wd p2 0 : Nat), .int .u64 (wd p2 1 : Nat), .int .u64 (wd p2 2 : Nat), .int .u64 (wd p2 3 : Nat)] ∧ At w' gd 24 #[.int .u64 (wd n0 0 : Nat), .int .u64 (wd n0 1 : Nat), .int .u64 (wd n0 2 : Nat), .int .u64 (wd n0 3 : Nat)] ∧ At w' gx 24 #[.int .u64 (wd n5 0 : Nat), .int .u64 (wd n5 1 : Nat), .int .u64 (wd n5 2 : Nat), .int .u64 (wd n5 3 : Nat)] ∧ At w' gy 24 #[.int .u64 (wd n0 0 : Nat), .int .u64 (wd n0 1 : Nat), .int .u64 (wd n0 2 : Nat), .int .u64 (wd n0 3 : Nat)]) (by kernel_rfl) (⟨Fa.out.drew, Fb.out.drew, Fc.out.drew, Fd.out.drew, Fx.out.drew, Fy.out.drew⟩) (fun _ => ?_)
  refine wpAnyH_cores (fuel := 1) (⟨0, 58, [], Kind.val (.agg #[.int .u64 (wd n3 0 : Nat), .int .u64 (wd n3 1 : Nat), .int .u64 (wd n3 2 : Nat), .int .u64 (wd n3 3 : Nat)]), true⟩ :: ⟨1, 59, [0], Kind.val (.agg #[.int .u64 (wd n3 0 : Nat), .int .u64 (wd n3 1 : Nat), .int .u64 (wd n3 2 : Nat), .int .u64 (wd n3 3 : Nat)]), false⟩ :: ⟨2, 60, [0, 1], Kind.val (.bool true), true⟩ :: ⟨3, 61, [2], Kind.val (.bool true), true⟩ :: ⟨4, 62, [3], Kind.val (.agg #[.int .u64 (wd n2 0 : Nat), .int .u64 (wd n2 1 : Nat), .int .u64 (wd n2 2 : Nat), .int .u64 (wd n2 3 : Nat)]), true⟩ :: ⟨5, 63, [3, 4], Kind.val (.agg #[.int .u64 (wd n2 0 : Nat), .int .u64 (wd n2 1 : Nat), .int .u64 (wd n2 2 : Nat), .int .u64 (wd n2 3 : Nat)]), false⟩ :: ⟨6, 64, [3, 4, 5], Kind.val (.bool true), true⟩ :: ⟨7, 65, [3, 6], Kind.val (.bool true), true⟩ :: ⟨8, 66, [7], Kind.val (.bool true), true⟩ :: ⟨9, 67, [8], Kind.val (.int .i64 0), true⟩ :: ⟨10, 68, [8, 9], Kind.val (.bool true), true⟩ :: ⟨11, 69, [8, 10], Kind.val (.bool true), true⟩ :: ⟨12, 70, [11], Kind.val (.bool true), true⟩ :: ⟨13, 71, [12], Kind.val (.agg #[.int .u64 (wd p2 0 : Nat), .int .u64 (wd p2 1 : Nat), .int .u64 (wd p2 2 : Nat), .int .u64 (wd p2 3 : Nat)]), true⟩ :: ⟨14, 72, [12, 13], Kind.val (.agg #[.int .u64 0, .int .u64 68719476736, .int .u64 0, .int .u64 0]), true⟩ :: ⟨15, 73, [12, 13, 14], Kind.val (.bool true), true⟩ :: ⟨16, 74, [12, 15], Kind.val (.bool true), true⟩ :: ⟨17, 75, [16], Kind.val (.bool true), true⟩ :: ⟨18, 76, [17], Kind.val (.agg #[.int .u64 (wd n0 0 : Nat), .int .u64 (wd n0 1 : Nat), .int .u64 (wd n0 2 : Nat), .int .u64 (wd n0 3 : Nat)]), true⟩ :: ⟨19, 77, [17, 18], Kind.val (.agg #[.int .u64 (wd n0 0 : Nat), .int .u64 (wd n0 1 : Nat), .int .u64 (wd n0 2 : Nat), .int .u64 (wd n0 3 : Nat)]), false⟩ :: ⟨20, 78, [17, 18, 19], Kind.val (.bool true), true⟩ :: ⟨21, 79, [17, 20], Kind.val (.bool true), true⟩ :: ⟨22, 80, [21], Kind.val (.bool true), true⟩ :: ⟨23, 81, [22], Kind.val (.int .i64 0), true⟩ :: ⟨24, 82, [22, 23], Kind.val (.bool true), true⟩ :: ⟨25, 83, [22, 24], Kind.val (.bool true), true⟩ :: ⟨26, 84, [25], Kind.val (.bool true), true⟩ :: ⟨27, 85, [26], Kind.val (.int .i64 1), true⟩ :: ⟨28, 86, [26, 27], Kind.val (.bool true), true⟩ :: ⟨29, 87, [26, 28], Kind.val (.bool true), true⟩ :: ⟨30, 88, [29], Kind.val (.bool true), true⟩ :: ⟨31, 89, [30], Kind.val (.agg #[.int .u64 (wd n5 0 : Nat), .int .u64 (wd n5 1 : Nat), .int .u64 (wd n5 2 : Nat), .int .u64 (wd n5 3 : Nat)]), true⟩ :: ⟨32, 90, [30, 31], Kind.val (.agg #[.int .u64 (wd n5 0 : Nat), .int .u64 (wd n5 1 : Nat), .int .u64 (wd n5 2 : Nat), .int .u64 (wd n5 3 : Nat)]), false⟩ :: ⟨33, 91, [30, 31, 32], Kind.val (.bool true), true⟩ :: ⟨34, 92, [30, 33], Kind.val (.bool true), true⟩ :: ⟨35, 93, [34], Kind.val (.bool true), true⟩ :: ⟨36, 94, [35], Kind.val (.int .i64 0), true⟩ :: ⟨37, 95, [35, 36], Kind.val (.bool true), true⟩ :: ⟨38, 96, [35, 37], Kind.val (.bool true), true⟩ :: ⟨39, 97, [38], Kind.val (.bool true), true⟩ :: ⟨40, 98, [39], Kind.val (.agg #[.int .u64 (wd n0 0 : Nat), .int .u64 (wd n0 1 : Nat), .int .u64 (wd n0 2 : Nat), .int .u64 (wd n0 3 : Nat)]), true⟩ :: ⟨41, 99, [39, 40], Kind.val (.agg #[.int .u64 (wd n0 0 : Nat), .int .u64 (wd n0 1 : Nat), .int .u64 (wd n0 2 : Nat), .int .u64 (wd n0 3 : Nat)]), false⟩ :: ⟨42, 100, [39, 40, 41], Kind.val (.bool true), true⟩ :: ⟨43, 101, [39, 42], Kind.val (.bool true), true⟩ :: ⟨44, 102, [43], Kind.val (.bool true), true⟩ :: ⟨45, 103, [44], Kind.val (.int .i64 0), true⟩ :: ⟨46, 104, [44, 45], Kind.val (.bool true), true⟩ :: ⟨47, 105, [44, 46], Kind.val (.bool true), true⟩ :: ⟨48, 106, [47], Kind.val (.bool true), true⟩ :: ⟨49, 107, [48], Kind.val (.int .i64 1), true⟩ :: ⟨50, 108, [48, 49], Kind.val (.bool true), true⟩ :: ⟨51, 109, [48, 50], Kind.val (.bool true), true⟩ :: ⟨52, 110, [51], Kind.val (.bool true), true⟩ :: ⟨53, 111, [52], Kind.val (.agg #[.int .u64 (wd n12 0 : Nat), .int .u64 (wd n12 1 : Nat), .int .u64 (wd n12 2 : Nat), .int .u64 (wd n12 3 : Nat)]), false⟩ :: ⟨54, 112, [52, 53], Kind.val (.agg #[.int .u64 (wd n18 0 : Nat), .int .u64 (wd n18 1 : Nat), .int .u64 (wd n18 2 : Nat), .int .u64 (wd n18 3 : Nat)]), false⟩ :: ⟨55, 113, [52, 53, 54], Kind.val (.agg #[.int .u64 (wd n6 0 : Nat), .int .u64 (wd n6 1 : Nat), .int .u64 (wd n6 2 : Nat), .int .u64 (wd n6 3 : Nat)]), false⟩ :: ⟨56, 114, [52, 55], Kind.val (.agg #[.int .u64 (wd n6 0 : Nat), .int .u64 (wd n6 1 : Nat), .int .u64 (wd n6 2 : Nat), .int .u64 (wd n6 3 : Nat)]), false⟩ :: ⟨57, 115, [52, 55, 56], Kind.val (.bool true), true⟩ :: ⟨58, 116, [52, 57], Kind.val (.bool true), true⟩ :: ⟨59, 117, [58], Kind.val (.bool true), true⟩ :: ⟨60, 118, [59], Kind.val (.agg #[.int .u64 (wd n0 0 : Nat), .int .u64 (wd n0 1 : Nat), .int .u64 (wd n0 2 : Nat), .int .u64 (wd n0 3 : Nat)]), false⟩ :: ⟨61, 119, [59, 60], Kind.val (.agg #[.int .u64 (wd n5 0 : Nat), .int .u64 (wd n5 1 : Nat), .int .u64 (wd n5 2 : Nat), .int .u64 (wd n5 3 : Nat)]), false⟩ :: ⟨62, 120, [59, 60, 61], Kind.val (.agg #[.int .u64 (wd n5 0 : Nat), .int .u64 (wd n5 1 : Nat), .int .u64 (wd n5 2 : Nat), .int .u64 (wd n5 3 : Nat)]), false⟩ :: ⟨63, 121, [59, 62], Kind.val (.agg #[.int .u64 (wd n5 0 : Nat), .int .u64 (wd n5 1 : Nat), .int .u64 (wd n5 2 : Nat), .int .u64 (wd n5 3 : Nat)]), false⟩ :: ⟨64, 122, [59, 62, 63], Kind.val (.bool true), true⟩ :: ⟨65, 123, [59, 64], Kind.val (.bool true), true⟩ :: ⟨66, 124, [65], Kind.val (.bool true), true⟩ :: ⟨67, 125, [66], Kind.val (.agg #[.int .u64 (wd n0 0 : Nat), .int .u64 (wd n0 1 : Nat), .int .u64 (wd n0 2 : Nat), .int .u64 (wd n0 3 : Nat)]), false⟩ :: ⟨68, 126, [66, 67], Kind.val (.agg #[.int .u64 (wd n0 0 : Nat), .int .u64 (wd n0 1 : Nat), .int .u64 (wd n0 2 : Nat), .int .u64 (wd n0 3 : Nat)]), false⟩ :: ⟨69, 127, [66, 67, 68], Kind.val (.agg #[.int .u64 (wd n0 0 : Nat), .int .u64 (wd n0 1 : Nat), .int .u64 (wd n0 2 : Nat), .int .u64 (wd n0 3 : Nat)]), false⟩ :: ⟨70, 128, [66, 69], Kind.val (.agg #[.int .u64 (wd n0 0 : Nat), .int .u64 (wd n0 1 : Nat), .int .u64 (wd n0 2 : Nat), .int .u64 (wd n0 3 : Nat)]), false⟩ :: ⟨71, 129, [66, 69, 70], Kind.val (.bool true), true⟩ :: ⟨72, 130, [66, 71], Kind.val (.bool true), true⟩ :: []) _ _ W24 _ ?_ ?_ ?_ ?_ ?_ ?_ ?_ ?_ ?_ ?_ ?_
  · rfl
  · kernel_rfl
  · exact of_decide_eq_true (by kernel_rfl)
  · exact all_cons ⟨_, by rfl, by rfl⟩ (all_cons ⟨_, by rfl, by rfl⟩ (all_cons ⟨_, by rfl, by rfl⟩ (all_cons ⟨_, by rfl, by rfl⟩ (all_cons ⟨_, by rfl, by rfl⟩ (all_cons ⟨_, by rfl, by rfl⟩ (all_cons ⟨_, by rfl, by rfl⟩ (all_cons ⟨_, by rfl, by rfl⟩ (all_cons ⟨_, by rfl, by rfl⟩ (all_cons ⟨_, by rfl, by rfl⟩ (all_cons ⟨_, by rfl, by rfl⟩ (all_cons ⟨_, by rfl, by rfl⟩ (all_cons ⟨_, by rfl, by rfl⟩ (all_cons ⟨_, by rfl, by rfl⟩ (all_cons ⟨_, by rfl, by rfl⟩ (all_cons ⟨_, by rfl, by rfl⟩ (all_cons ⟨_, by rfl, by rfl⟩ (all_cons ⟨_, by rfl, by rfl⟩ (all_cons ⟨_, by rfl, by rfl⟩ (all_cons ⟨_, by rfl, by rfl⟩ (all_cons ⟨_, by rfl, by rfl⟩ (all_cons ⟨_, by rfl, by rfl⟩ (all_cons ⟨_, by rfl, by rfl⟩ (all_cons ⟨_, by rfl, by rfl⟩ (all_cons ⟨_, by rfl, by rfl⟩ (all_cons ⟨_, by rfl, by rfl⟩ (all_cons ⟨_, by rfl, by rfl⟩ (all_cons ⟨_, by rfl, by rfl⟩ (all_cons ⟨_, by rfl, by rfl⟩ (all_cons ⟨_, by rfl, by rfl⟩ (all_cons ⟨_, by rfl, by rfl⟩ (all_cons ⟨_, by rfl, by rfl⟩ (all_cons ⟨_, by rfl, by rfl⟩ (all_cons ⟨_, by rfl, by rfl⟩ (all_cons ⟨_, by rfl, by rfl⟩ (all_cons ⟨_, by rfl, by rfl⟩ (all_cons ⟨_, by rfl, by rfl⟩ (all_cons ⟨_, by rfl, by rfl⟩ (all_cons ⟨_, by rfl, by rfl⟩ (all_cons ⟨_, by rfl, by rfl⟩ (all_cons ⟨_, by rfl, by rfl⟩ (all_cons ⟨_, by rfl, by rfl⟩ (all_cons ⟨_, by rfl, by rfl⟩ (all_cons ⟨_, by rfl, by rfl⟩ (all_cons ⟨_, by rfl, by rfl⟩ (all_cons ⟨_, by rfl, by rfl⟩ (all_cons ⟨_, by rfl, by rfl⟩ (all_cons ⟨_, by rfl, by rfl⟩ (all_cons ⟨_, by rfl, by rfl⟩ (all_cons ⟨_, by rfl, by rfl⟩ (all_cons ⟨_, by rfl, by rfl⟩ (all_cons ⟨_, by rfl, by rfl⟩ (all_cons ⟨_, by rfl, by rfl⟩ (all_cons ⟨_, by rfl, by rfl⟩ (all_cons ⟨_, by rfl, by rfl⟩ (all_cons ⟨_, by rfl, by rfl⟩ (all_cons ⟨_, by rfl, by rfl⟩ (all_cons ⟨_, by rfl, by rfl⟩ (all_cons ⟨_, by rfl, by rfl⟩ (all_cons ⟨_, by rfl, by rfl⟩ (all_cons ⟨_, by rfl, by rfl⟩ (all_cons ⟨_, by rfl, by rfl⟩ (all_cons ⟨_, by rfl, by rfl⟩ (all_cons ⟨_, by rfl, by rfl⟩ (all_cons ⟨_, by rfl, by rfl⟩ (all_cons ⟨_, by rfl, by rfl⟩ (all_cons ⟨_, by rfl, by rfl⟩ (all_cons ⟨_, by rfl, by rfl⟩ (all_cons ⟨_, by rfl, by rfl⟩ (all_cons ⟨_, by rfl, by rfl⟩ (all_cons ⟨_, by rfl, by rfl⟩ (all_cons ⟨_, by rfl, by rfl⟩ (all_cons ⟨_, by rfl, by rfl⟩ (all_nil)))))))))))))))))))))))))))))))))))))))))))))))))))))))))))))))))))))))))
  · exact fun _ hb => ⟨Fa.out.on hb, Fb.out.on hb, Fc.out.on hb, Fd.out.on hb, Fx.out.on hb, Fy.out.on hb⟩
  · exact (Below.refl _ _).drew
  · kernel_rfl
  · exact fun _ _ _ _ _ h => h
  · refine all_cons ?_ (all_cons ?_ (all_cons ?_ (all_cons ?_ (all_cons ?_ (all_cons ?_ (all_cons ?_ (all_cons ?_ (all_cons ?_ (all_cons ?_ (all_cons ?_ (all_cons ?_ (all_cons ?_ (all_cons ?_ (all_cons ?_ (all_cons ?_ (all_cons ?_ (all_cons ?_ (all_cons ?_ (all_cons ?_ (all_cons ?_ (all_cons ?_ (all_cons ?_ (all_cons ?_ (all_cons ?_ (all_cons ?_ (all_cons ?_ (all_cons ?_ (all_cons ?_ (all_cons ?_ (all_cons ?_ (all_cons ?_ (all_cons ?_ (all_cons ?_ (all_cons ?_ (all_cons ?_ (all_cons ?_ (all_cons ?_ (all_cons ?_ (all_cons ?_ (all_cons ?_ (all_cons ?_ (all_cons ?_ (all_cons ?_ (all_cons ?_ (all_cons ?_ (all_cons ?_ (all_cons ?_ (all_cons ?_ (all_cons ?_ (all_cons ?_ (all_cons ?_ (all_cons ?_ (all_cons ?_ (all_cons ?_ (all_cons ?_ (all_cons ?_ (all_cons ?_ (all_cons ?_ (all_cons ?_ (all_cons ?_ (all_cons ?_ (all_cons ?_ (all_cons ?_ (all_cons ?_ (all_cons ?_ (all_cons ?_ (all_cons ?_ (all_cons ?_ (all_cons ?_ (all_cons ?_ (all_cons ?_ (all_cons ?_ (all_nil)))))))))))))))))))))))))))))))))))))))))))))))))))))))))))))))))))))))))
    · exact coreG_loadP _ _ _ _ _ _ ga _ _ _ _ (by rfl) (by rfl) (wants_none) (known_old 1 _ (of_decide_eq_true (by rfl)) (by rfl)) (fun _ hs => hs.1)
    · exact core_pureAs _ (by rfl)
    · exact coreG_bin _ _ _ _ _ _ _ _ _ _ _ _ _ (by rfl) (by rfl) (wants_none) (known_core 0 58 _ _ (of_decide_eq_true (by rfl)) (by rfl) (by rfl) (by rfl)) (known_core 1 59 _ _ (of_decide_eq_true (by rfl)) (by rfl) (by rfl) (by rfl)) (eql_run true _ _ _ _ _ _ _ _ _ _ _ _ _ _ _ (eqY n3))
    · exact coreG_move _ _ _ _ _ _ _ (by rfl) (by rfl) (wants_none) (known_core 2 60 _ _ (of_decide_eq_true (by rfl)) (by rfl) (by rfl) (by rfl))
    · exact coreG_loadP _ _ _ _ _ _ gb _ _ _ _ (by rfl) (by rfl) (wants_core 3 61 3 _ _ _ (by rfl) (by rfl) (by rfl) (known_core 3 61 _ _ (of_decide_eq_true (by rfl)) (by rfl) (by rfl) (by rfl)) _ (by rfl)) (known_old 2 _ (of_decide_eq_true (by rfl)) (by rfl)) (fun _ hs => hs.2.1)
    · exact core_pureAs _ (by rfl)
    · exact coreG_bin _ _ _ _ _ _ _ _ _ _ _ _ _ (by rfl) (by rfl) (wants_core 3 61 3 _ _ _ (by rfl) (by rfl) (by rfl) (known_core 3 61 _ _ (of_decide_eq_true (by rfl)) (by rfl) (by rfl) (by rfl)) _ (by rfl)) (known_core 4 62 _ _ (of_decide_eq_true (by rfl)) (by rfl) (by rfl) (by rfl)) (known_core 5 63 _ _ (of_decide_eq_true (by rfl)) (by rfl) (by rfl) (by rfl)) (eql_run true _ _ _ _ _ _ _ _ _ _ _ _ _ _ _ (eqY n2))
    · exact coreG_pick _ _ _ _ _ _ _ _ _ _ _ _ (by rfl) (by rfl) (wants_none) (known_core 3 61 _ _ (of_decide_eq_true (by rfl)) (by rfl) (by rfl) (by rfl)) (known_core 6 64 _ _ (of_decide_eq_true (by rfl)) (by rfl) (by rfl) (by rfl)) (known_const _) (by rfl)
    · exact coreG_move _ _ _ _ _ _ _ (by rfl) (by rfl) (wants_none) (known_core 7 65 _ _ (of_decide_eq_true (by rfl)) (by rfl) (by rfl) (by rfl))
    · exact coreG_move _ _ _ _ _ _ _ (by rfl) (by rfl) (wants_core 8 66 8 _ _ _ (by rfl) (by rfl) (by rfl) (known_core 8 66 _ _ (of_decide_eq_true (by rfl)) (by rfl) (by rfl) (by rfl)) _ (by rfl)) (known_old 3 _ (of_decide_eq_true (by rfl)) (by rfl))
    · exact coreG_bin _ _ _ _ _ _ _ _ _ _ _ _ _ (by rfl) (by rfl) (wants_core 8 66 8 _ _ _ (by rfl) (by rfl) (by rfl) (known_core 8 66 _ _ (of_decide_eq_true (by rfl)) (by rfl) (by rfl) (by rfl)) _ (by rfl)) (known_core 9 67 _ _ (of_decide_eq_true (by rfl)) (by rfl) (by rfl) (by rfl)) (known_const _) ((fun ρ w hx hy => by simp only [execOp, hx, hy]; simp [go_sem]))
    · exact coreG_pick _ _ _ _ _ _ _ _ _ _ _ _ (by rfl) (by rfl) (wants_none) (known_core 8 66 _ _ (of_decide_eq_true (by rfl)) (by rfl) (by rfl) (by rfl)) (known_core 10 68 _ _ (of_decide_eq_true (by rfl)) (by rfl) (by rfl) (by rfl)) (known_const _) (by rfl)
    · exact coreG_move _ _ _ _ _ _ _ (by rfl) (by rfl) (wants_none) (known_core 11 69 _ _ (of_decide_eq_true (by rfl)) (by rfl) (by rfl) (by rfl))
    · exact coreG_loadP _ _ _ _ _ _ gc _ _ _ _ (by rfl) (by rfl) (wants_core 12 70 12 _ _ _ (by rfl) (by rfl) (by rfl) (known_core 12 70 _ _ (of_decide_eq_true (by rfl)) (by rfl) (by rfl) (by rfl)) _ (by rfl)) (known_old 4 _ (of_decide_eq_true (by rfl)) (by rfl)) (fun _ hs => hs.2.2.1)
    · exact (coreG_pure _ _ _ _ _ _ _ (by rfl) (by rfl) (wants_core 12 70 12 _ _ _ (by rfl) (by rfl) (by rfl) (known_core 12 70 _ _ (of_decide_eq_true (by rfl)) (by rfl) (by rfl) (by rfl)) _ (by rfl)) (fun vs w hl hp w' _ => by simp [execOp, go_sem, Act.eval]))
    · exact coreG_bin _ _ _ _ _ _ _ _ _ _ _ _ _ (by rfl) (by rfl) (wants_core 12 70 12 _ _ _ (by rfl) (by rfl) (by rfl) (known_core 12 70 _ _ (of_decide_eq_true (by rfl)) (by rfl) (by rfl) (by rfl)) _ (by rfl)) (known_core 13 71 _ _ (of_decide_eq_true (by rfl)) (by rfl) (by rfl) (by rfl)) (known_core 14 72 _ _ (of_decide_eq_true (by rfl)) (by rfl) (by rfl) (by rfl)) (eql_run true _ _ _ _ _ _ _ _ _ _ _ _ _ _ _ EP)
    · exact coreG_pick _ _ _ _ _ _ _ _ _ _ _ _ (by rfl) (by rfl) (wants_none) (known_core 12 70 _ _ (of_decide_eq_true (by rfl)) (by rfl) (by rfl) (by rfl)) (known_core 15 73 _ _ (of_decide_eq_true (by rfl)) (by rfl) (by rfl) (by rfl)) (known_const _) (by rfl)
    · exact coreG_move _ _ _ _ _ _ _ (by rfl) (by rfl) (wants_none) (known_core 16 74 _ _ (of_decide_eq_true (by rfl)) (by rfl) (by rfl) (by rfl))
    · exact coreG_loadP _ _ _ _ _ _ gd _ _ _ _ (by rfl) (by rfl) (wants_core 17 75 17 _ _ _ (by rfl) (by rfl) (by rfl) (known_core 17 75 _ _ (of_decide_eq_true (by rfl)) (by rfl) (by rfl) (by rfl)) _ (by rfl)) (known_old 5 _ (of_decide_eq_true (by rfl)) (by rfl)) (fun _ hs => hs.2.2.2.1)
    · exact core_pureAs _ (by rfl)
    · exact coreG_bin _ _ _ _ _ _ _ _ _ _ _ _ _ (by rfl) (by rfl) (wants_core 17 75 17 _ _ _ (by rfl) (by rfl) (by rfl) (known_core 17 75 _ _ (of_decide_eq_true (by rfl)) (by rfl) (by rfl) (by rfl)) _ (by rfl)) (known_core 18 76 _ _ (of_decide_eq_true (by rfl)) (by rfl) (by rfl) (by rfl)) (known_core 19 77 _ _ (of_decide_eq_true (by rfl)) (by rfl) (by rfl) (by rfl)) (eql_run true _ _ _ _ _ _ _ _ _ _ _ _ _ _ _ (eqY n0))
    · exact coreG_pick _ _ _ _ _ _ _ _ _ _ _ _ (by rfl) (by rfl) (wants_none) (known_core 17 75 _ _ (of_decide_eq_true (by rfl)) (by rfl) (by rfl) (by rfl)) (known_core 20 78 _ _ (of_decide_eq_true (by rfl)) (by rfl) (by rfl) (by rfl)) (known_const _) (by rfl)
    · exact coreG_move _ _ _ _ _ _ _ (by rfl) (by rfl) (wants_none) (known_core 21 79 _ _ (of_decide_eq_true (by rfl)) (by rfl) (by rfl) (by rfl))
    · exact coreG_move _ _ _ _ _ _ _ (by rfl) (by rfl) (wants_core 22 80 22 _ _ _ (by rfl) (by rfl) (by rfl) (known_core 22 80 _ _ (of_decide_eq_true (by rfl)) (by rfl) (by rfl) (by rfl)) _ (by rfl)) (known_old 6 _ (of_decide_eq_true (by rfl)) (by rfl))
    · exact coreG_bin _ _ _ _ _ _ _ _ _ _ _ _ _ (by rfl) (by rfl) (wants_core 22 80 22 _ _ _ (by rfl) (by rfl) (by rfl) (known_core 22 80 _ _ (of_decide_eq_true (by rfl)) (by rfl) (by rfl) (by rfl)) _ (by rfl)) (known_core 23 81 _ _ (of_decide_eq_true (by rfl)) (by rfl) (by rfl) (by rfl)) (known_const _) ((fun ρ w hx hy => by simp only [execOp, hx, hy]; simp [go_sem]))
    · exact coreG_pick _ _ _ _ _ _ _ _ _ _ _ _ (by rfl) (by rfl) (wants_none) (known_core 22 80 _ _ (of_decide_eq_true (by rfl)) (by rfl) (by rfl) (by rfl)) (known_core 24 82 _ _ (of_decide_eq_true (by rfl)) (by rfl) (by rfl) (by rfl)) (known_const _) (by rfl)
    · exact coreG_move _ _ _ _ _ _ _ (by rfl) (by rfl) (wants_none) (known_core 25 83 _ _ (of_decide_eq_true (by rfl)) (by rfl) (by rfl) (by rfl))
    · exact coreG_move _ _ _ _ _ _ _ (by rfl) (by rfl) (wants_core 26 84 26 _ _ _ (by rfl) (by rfl) (by rfl) (known_core 26 84 _ _ (of_decide_eq_true (by rfl)) (by rfl) (by rfl) (by rfl)) _ (by rfl)) (known_old 9 _ (of_decide_eq_true (by rfl)) (by rfl))
    · exact coreG_bin _ _ _ _ _ _ _ _ _ _ _ _ _ (by rfl) (by rfl) (wants_core 26 84 26 _ _ _ (by rfl) (by rfl) (by rfl) (known_core 26 84 _ _ (of_decide_eq_true (by rfl)) (by rfl) (by rfl) (by rfl)) _ (by rfl)) (known_core 27 85 _ _ (of_decide_eq_true (by rfl)) (by rfl) (by rfl) (by rfl)) (known_const _) ((fun ρ w hx hy => by simp only [execOp, hx, hy]; simp [go_sem]))
    · exact coreG_pick _ _ _ _ _ _ _ _ _ _ _ _ (by rfl) (by rfl) (wants_none) (known_core 26 84 _ _ (of_decide_eq_true (by rfl)) (by rfl) (by rfl) (by rfl)) (known_core 28 86 _ _ (of_decide_eq_true (by rfl)) (by rfl) (by rfl) (by rfl)) (known_const _) (by rfl)
    · exact coreG_move _ _ _ _ _ _ _ (by rfl) (by rfl) (wants_none) (known_core 29 87 _ _ (of_decide_eq_true (by rfl)) (by rfl) (by rfl) (by rfl))
    · exact coreG_loadP _ _ _ _ _ _ gx _ _ _ _ (by rfl) (by rfl) (wants_core 30 88 30 _ _ _ (by rfl) (by rfl) (by rfl) (known_core 30 88 _ _ (of_decide_eq_true (by rfl)) (by rfl) (by rfl) (by rfl)) _ (by rfl)) (known_old 10 _ (of_decide_eq_true (by rfl)) (by rfl)) (fun _ hs => hs.2.2.2.2.1)
    · exact core_pureAs _ (by rfl)
    · exact coreG_bin _ _ _ _ _ _ _ _ _ _ _ _ _ (by rfl) (by rfl) (wants_core 30 88 30 _ _ _ (by rfl) (by rfl) (by rfl) (known_core 30 88 _ _ (of_decide_eq_true (by rfl)) (by rfl) (by rfl) (by rfl)) _ (by rfl)) (known_core 31 89 _ _ (of_decide_eq_true (by rfl)) (by rfl) (by rfl) (by rfl)) (known_core 32 90 _ _ (of_decide_eq_true (by rfl)) (by rfl) (by rfl) (by rfl)) (eql_run true _ _ _ _ _ _ _ _ _ _ _ _ _ _ _ (eqY n5))
    · exact coreG_pick _ _ _ _ _ _ _ _ _ _ _ _ (by rfl) (by rfl) (wants_none) (known_core 30 88 _ _ (of_decide_eq_true (by rfl)) (by rfl) (by rfl) (by rfl)) (known_core 33 91 _ _ (of_decide_eq_true (by rfl)) (by rfl) (by rfl) (by rfl)) (known_const _) (by rfl)
    · exact coreG_move _ _ _ _ _ _ _ (by rfl) (by rfl) (wants_none) (known_core 34 92 _ _ (of_decide_eq_true (by rfl)) (by rfl) (by rfl) (by rfl))
    · exact coreG_move _ _ _ _ _ _ _ (by rfl) (by rfl) (wants_core 35 93 35 _ _ _ (by rfl) (by rfl) (by rfl) (known_core 35 93 _ _ (of_decide_eq_true (by rfl)) (by rfl) (by rfl) (by rfl)) _ (by rfl)) (known_old 11 _ (of_decide_eq_true (by rfl)) (by rfl))
    · exact coreG_bin _ _ _ _ _ _ _ _ _ _ _ _ _ (by rfl) (by rfl) (wants_core 35 93 35 _ _ _ (by rfl) (by rfl) (by rfl) (known_core 35 93 _ _ (of_decide_eq_true (by rfl)) (by rfl) (by rfl) (by rfl)) _ (by rfl)) (known_core 36 94 _ _ (of_decide_eq_true (by rfl)) (by rfl) (by rfl) (by rfl)) (known_const _) ((fun ρ w hx hy => by simp only [execOp, hx, hy]; simp [go_sem]))
    · exact coreG_pick _ _ _ _ _ _ _ _ _ _ _ _ (by rfl) (by rfl) (wants_none) (known_core 35 93 _ _ (of_decide_eq_true (by rfl)) (by rfl) (by rfl) (by rfl)) (known_core 37 95 _ _ (of_decide_eq_true (by rfl)) (by rfl) (by rfl) (by rfl)) (known_const _) (by rfl)
    · exact coreG_move _ _ _ _ _ _ _ (by rfl) (by rfl) (wants_none) (known_core 38 96 _ _ (of_decide_eq_true (by rfl)) (by rfl) (by rfl) (by rfl))
    · exact coreG_loadP _ _ _ _ _ _ gy _ _ _ _ (by rfl) (by rfl) (wants_core 39 97 39 _ _ _ (by rfl) (by rfl) (by rfl) (known_core 39 97 _ _ (of_decide_eq_true (by rfl)) (by rfl) (by rfl) (by rfl)) _ (by rfl)) (known_old 12 _ (of_decide_eq_true (by rfl)) (by rfl)) (fun _ hs => hs.2.2.2.2.2)
    · exact core_pureAs _ (by rfl)
    · exact coreG_bin _ _ _ _ _ _ _ _ _ _ _ _ _ (by rfl) (by rfl) (wants_core 39 97 39 _ _ _ (by rfl) (by rfl) (by rfl) (known_core 39 97 _ _ (of_decide_eq_true (by rfl)) (by rfl) (by rfl) (by rfl)) _ (by rfl)) (known_core 40 98 _ _ (of_decide_eq_true (by rfl)) (by rfl) (by rfl) (by rfl)) (known_core 41 99 _ _ (of_decide_eq_true (by rfl)) (by rfl) (by rfl) (by rfl)) (eql_run true _ _ _ _ _ _ _ _ _ _ _ _ _ _ _ (eqY n0))
    · exact coreG_pick _ _ _ _ _ _ _ _ _ _ _ _ (by rfl) (by rfl) (wants_none) (known_core 39 97 _ _ (of_decide_eq_true (by rfl)) (by rfl) (by rfl) (by rfl)) (known_core 42 100 _ _ (of_decide_eq_true (by rfl)) (by rfl) (by rfl) (by rfl)) (known_const _) (by rfl)
    · exact coreG_move _ _ _ _ _ _ _ (by rfl) (by rfl) (wants_none) (known_core 43 101 _ _ (of_decide_eq_true (by rfl)) (by rfl) (by rfl) (by rfl))
    · exact coreG_move _ _ _ _ _ _ _ (by rfl) (by rfl) (wants_core 44 102 44 _ _ _ (by rfl) (by rfl) (by rfl) (known_core 44 102 _ _ (of_decide_eq_true (by rfl)) (by rfl) (by rfl) (by rfl)) _ (by rfl)) (known_old 13 _ (of_decide_eq_true (by rfl)) (by rfl))
    · exact coreG_bin _ _ _ _ _ _ _ _ _ _ _ _ _ (by rfl) (by rfl) (wants_core 44 102 44 _ _ _ (by rfl) (by rfl) (by rfl) (known_core 44 102 _ _ (of_decide_eq_true (by rfl)) (by rfl) (by rfl) (by rfl)) _ (by rfl)) (known_core 45 103 _ _ (of_decide_eq_true (by rfl)) (by rfl) (by rfl) (by rfl)) (known_const _) ((fun ρ w hx hy => by simp only [execOp, hx, hy]; simp [go_sem]))
    · exact coreG_pick _ _ _ _ _ _ _ _ _ _ _ _ (by rfl) (by rfl) (wants_none) (known_core 44 102 _ _ (of_decide_eq_true (by rfl)) (by rfl) (by rfl) (by rfl)) (known_core 46 104 _ _ (of_decide_eq_true (by rfl)) (by rfl) (by rfl) (by rfl)) (known_const _) (by rfl)
    · exact coreG_move _ _ _ _ _ _ _ (by rfl) (by rfl) (wants_none) (known_core 47 105 _ _ (of_decide_eq_true (by rfl)) (by rfl) (by rfl) (by rfl))
    · exact coreG_move _ _ _ _ _ _ _ (by rfl) (by rfl) (wants_core 48 106 48 _ _ _ (by rfl) (by rfl) (by rfl) (known_core 48 106 _ _ (of_decide_eq_true (by rfl)) (by rfl) (by rfl) (by rfl)) _ (by rfl)) (known_old 15 _ (of_decide_eq_true (by rfl)) (by rfl))
    · exact coreG_bin _ _ _ _ _ _ _ _ _ _ _ _ _ (by rfl) (by rfl) (wants_core 48 106 48 _ _ _ (by rfl) (by rfl) (by rfl) (known_core 48 106 _ _ (of_decide_eq_true (by rfl)) (by rfl) (by rfl) (by rfl)) _ (by rfl)) (known_core 49 107 _ _ (of_decide_eq_true (by rfl)) (by rfl) (by rfl) (by rfl)) (known_const _) ((fun ρ w hx hy => by simp only [execOp, hx, hy]; simp [go_sem]))
    · exact coreG_pick _ _ _ _ _ _ _ _ _ _ _ _ (by rfl) (by rfl) (wants_none) (known_core 48 106 _ _ (of_decide_eq_true (by rfl)) (by rfl) (by rfl) (by rfl)) (known_core 50 108 _ _ (of_decide_eq_true (by rfl)) (by rfl) (by rfl) (by rfl)) (known_const _) (by rfl)
    · exact coreG_move _ _ _ _ _ _ _ (by rfl) (by rfl) (wants_none) (known_core 51 109 _ _ (of_decide_eq_true (by rfl)) (by rfl) (by rfl) (by rfl))
    · exact core_pureAs _ (by rfl)
    · exact core_pureAs _ (by rfl)
    · exact core_pureAs _ (by rfl)
    · exact core_pureAs _ (by rfl)
    · exact coreG_bin _ _ _ _ _ _ _ _ _ _ _ _ _ (by rfl) (by rfl) (wants_core 52 110 52 _ _ _ (by rfl) (by rfl) (by rfl) (known_core 52 110 _ _ (of_decide_eq_true (by rfl)) (by rfl) (by rfl) (by rfl)) _ (by rfl)) (known_core 55 113 _ _ (of_decide_eq_true (by rfl)) (by rfl) (by rfl) (by rfl)) (known_core 56 114 _ _ (of_decide_eq_true (by rfl)) (by rfl) (by rfl) (by rfl)) (eql_run true _ _ _ _ _ _ _ _ _ _ _ _ _ _ _ (eqY n6))
    · exact coreG_pick _ _ _ _ _ _ _ _ _ _ _ _ (by rfl) (by rfl) (wants_none) (known_core 52 110 _ _ (of_decide_eq_true (by rfl)) (by rfl) (by rfl) (by rfl)) (known_core 57 115 _ _ (of_decide_eq_true (by rfl)) (by rfl) (by rfl) (by rfl)) (known_const _) (by rfl)
    · exact coreG_move _ _ _ _ _ _ _ (by rfl) (by rfl) (wants_none) (known_core 58 116 _ _ (of_decide_eq_true (by rfl)) (by rfl) (by rfl) (by rfl))
    · exact core_pureAs _ (by rfl)
    · exact core_pureAs _ (by rfl)
    · exact core_pureAs _ (by rfl)
    · exact core_pureAs _ (by rfl)
    · exact coreG_bin _ _ _ _ _ _ _ _ _ _ _ _ _ (by rfl) (by rfl) (wants_core 59 117 59 _ _ _ (by rfl) (by rfl) (by rfl) (known_core 59 117 _ _ (of_decide_eq_true (by rfl)) (by rfl) (by rfl) (by rfl)) _ (by rfl)) (known_core 62 120 _ _ (of_decide_eq_true (by rfl)) (by rfl) (by rfl) (by rfl)) (known_core 63 121 _ _ (of_decide_eq_true (by rfl)) (by rfl) (by rfl) (by rfl)) (eql_run true _ _ _ _ _ _ _ _ _ _ _ _ _ _ _ (eqY n5))
    · exact coreG_pick _ _ _ _ _ _ _ _ _ _ _ _ (by rfl) (by rfl) (wants_none) (known_core 59 117 _ _ (of_decide_eq_true (by rfl)) (by rfl) (by rfl) (by rfl)) (known_core 64 122 _ _ (of_decide_eq_true (by rfl)) (by rfl) (by rfl) (by rfl)) (known_const _) (by rfl)
    · exact coreG_move _ _ _ _ _ _ _ (by rfl) (by rfl) (wants_none) (known_core 65 123 _ _ (of_decide_eq_true (by rfl)) (by rfl) (by rfl) (by rfl))
    · exact core_pureAs _ (by rfl)
    · exact core_pureAs _ (by rfl)
    · exact core_pureAs _ (by rfl)
    · exact core_pureAs _ (by rfl)
    · exact coreG_bin _ _ _ _ _ _ _ _ _ _ _ _ _ (by rfl) (by rfl) (wants_core 66 124 66 _ _ _ (by rfl) (by rfl) (by rfl) (known_core 66 124 _ _ (of_decide_eq_true (by rfl)) (by rfl) (by rfl) (by rfl)) _ (by rfl)) (known_core 69 127 _ _ (of_decide_eq_true (by rfl)) (by rfl) (by rfl) (by rfl)) (known_core 70 128 _ _ (of_decide_eq_true (by rfl)) (by rfl) (by rfl) (by rfl)) (eql_run true _ _ _ _ _ _ _ _ _ _ _ _ _ _ _ (eqY n0))
    · exact coreG_pick _ _ _ _ _ _ _ _ _ _ _ _ (by rfl) (by rfl) (wants_none) (known_core 66 124 _ _ (of_decide_eq_true (by rfl)) (by rfl) (by rfl) (by rfl)) (known_core 71 129 _ _ (of_decide_eq_true (by rfl)) (by rfl) (by rfl) (by rfl)) (known_const _) (by rfl)
  · refine all_cons ?_ (all_cons ?_ (all_cons ?_ (all_cons ?_ (all_cons ?_ (all_cons ?_ (all_cons ?_ (all_cons ?_ (all_cons ?_ (all_cons ?_ (all_cons ?_ (all_cons ?_ (all_cons ?_ (all_cons ?_ (all_cons ?_ (all_cons ?_ (all_cons ?_ (all_cons ?_ (all_cons ?_ (all_cons ?_ (all_cons ?_ (all_cons ?_ (all_cons ?_ (all_cons ?_ (all_cons ?_ (all_cons ?_ (all_cons ?_ (all_cons ?_ (all_cons ?_ (all_cons ?_ (all_cons ?_ (all_cons ?_ (all_cons ?_ (all_cons ?_ (all_cons ?_ (all_cons ?_ (all_cons ?_ (all_cons ?_ (all_cons ?_ (all_cons ?_ (all_cons ?_ (all_cons ?_ (all_cons ?_ (all_cons ?_ (all_cons ?_ (all_cons ?_ (all_cons ?_ (all_cons ?_ (all_cons ?_ (all_cons ?_ (all_cons ?_ (all_cons ?_ (all_cons ?_ (all_cons ?_ (all_cons ?_ (all_cons ?_ (all_cons ?_ (all_cons ?_ (all_cons ?_ (all_cons ?_ (all_cons ?_ (all_cons ?_ (all_cons ?_ (all_cons ?_ (all_cons ?_ (all_cons ?_ (all_cons ?_ (all_cons ?_ (all_cons ?_ (all_cons ?_ (all_cons ?_ (all_cons ?_ (all_cons ?_ (all_nil)))))))))))))))))))))))))))))))))))))))))))))))))))))))))))))))))))))))))
    · exact core_stepAs _ (by rfl)
    · exact fun _ => coreG_call _ 36 _ _ [.const (.int .u64 3)] _ _ _ _ _ _ _ (by rfl) Try.func36 (by kernel_rfl) (by rfl) (by rfl) (wants_none) (.cons (known_const _) .nil) (HOn3.out)
    · exact core_stepAs _ (by rfl)
    · exact core_stepAs _ (by rfl)
    · exact core_stepAs _ (by rfl)
    · exact fun _ => coreG_call _ 36 _ _ [.const (.int .u64 2)] _ _ _ _ _ _ _ (by rfl) Try.func36 (by kernel_rfl) (by rfl) (by rfl) (wants_core 3 61 3 _ _ _ (by rfl) (by rfl) (by rfl) (known_core 3 61 _ _ (of_decide_eq_true (by rfl)) (by rfl) (by rfl) (by rfl)) _ (by rfl)) (.cons (known_const _) .nil) (HOn2.out)
    · exact core_stepAs _ (by rfl)
    · exact core_stepAs _ (by rfl)
    · exact core_stepAs _ (by rfl)
    · exact core_stepAs _ (by rfl)
    · exact core_stepAs _ (by rfl)
    · exact core_stepAs _ (by rfl)
    · exact core_stepAs _ (by rfl)
    · exact core_stepAs _ (by rfl)
    · exact core_stepAs _ (by rfl)
    · exact core_stepAs _ (by rfl)
    · exact core_stepAs _ (by rfl)
    · exact core_stepAs _ (by rfl)
    · exact core_stepAs _ (by rfl)
    · exact fun _ => coreG_call _ 36 _ _ [.const (.int .u64 0)] _ _ _ _ _ _ _ (by rfl) Try.func36 (by kernel_rfl) (by rfl) (by rfl) (wants_core 17 75 17 _ _ _ (by rfl) (by rfl) (by rfl) (known_core 17 75 _ _ (of_decide_eq_true (by rfl)) (by rfl) (by rfl) (by rfl)) _ (by rfl)) (.cons (known_const _) .nil) (HOn0.out)
    · exact core_stepAs _ (by rfl)
    · exact core_stepAs _ (by rfl)
    · exact core_stepAs _ (by rfl)
    · exact core_stepAs _ (by rfl)
    · exact core_stepAs _ (by rfl)
    · exact core_stepAs _ (by rfl)
    · exact core_stepAs _ (by rfl)
    · exact core_stepAs _ (by rfl)
    · exact core_stepAs _ (by rfl)
    · exact core_stepAs _ (by rfl)
    · exact core_stepAs _ (by rfl)
    · exact core_stepAs _ (by rfl)
    · exact fun _ => coreG_call _ 36 _ _ [.const (.int .u64 5)] _ _ _ _ _ _ _ (by rfl) Try.func36 (by kernel_rfl) (by rfl) (by rfl) (wants_core 30 88 30 _ _ _ (by rfl) (by rfl) (by rfl) (known_core 30 88 _ _ (of_decide_eq_true (by rfl)) (by rfl) (by rfl) (by rfl)) _ (by rfl)) (.cons (known_const _) .nil) (HOn5.out)
    · exact core_stepAs _ (by rfl)
    · exact core_stepAs _ (by rfl)
    · exact core_stepAs _ (by rfl)
    · exact core_stepAs _ (by rfl)
    · exact core_stepAs _ (by rfl)
    · exact core_stepAs _ (by rfl)
    · exact core_stepAs _ (by rfl)
    · exact core_stepAs _ (by rfl)
    · exact fun _ => coreG_call _ 36 _ _ [.const (.int .u64 0)] _ _ _ _ _ _ _ (by rfl) Try.func36 (by kernel_rfl) (by rfl) (by rfl) (wants_core 39 97 39 _ _ _ (by rfl) (by rfl) (by rfl) (known_core 39 97 _ _ (of_decide_eq_true (by rfl)) (by rfl) (by rfl) (by rfl)) _ (by rfl)) (.cons (known_const _) .nil) (HOn0.out)
    · exact core_stepAs _ (by rfl)
    · exact core_stepAs _ (by rfl)
    · exact core_stepAs _ (by rfl)
    · exact core_stepAs _ (by rfl)
    · exact core_stepAs _ (by rfl)
    · exact core_stepAs _ (by rfl)
    · exact core_stepAs _ (by rfl)
    · exact core_stepAs _ (by rfl)
    · exact core_stepAs _ (by rfl)
    · exact core_stepAs _ (by rfl)
    · exact core_stepAs _ (by rfl)
    · exact fun _ => coreG_call _ 36 _ _ [.const (.int .u64 12)] _ _ _ _ _ _ _ (by rfl) Try.func36 (by kernel_rfl) (by rfl) (by rfl) (wants_core 52 110 52 _ _ _ (by rfl) (by rfl) (by rfl) (known_core 52 110 _ _ (of_decide_eq_true (by rfl)) (by rfl) (by rfl) (by rfl)) _ (by rfl)) (.cons (known_const _) .nil) (HOn12.out)
    · exact fun _ => coreG_call _ 36 _ _ [.const (.int .u64 18)] _ _ _ _ _ _ _ (by rfl) Try.func36 (by kernel_rfl) (by rfl) (by rfl) (wants_core 52 110 52 _ _ _ (by rfl) (by rfl) (by rfl) (known_core 52 110 _ _ (of_decide_eq_true (by rfl)) (by rfl) (by rfl) (by rfl)) _ (by rfl)) (.cons (known_const _) .nil) (HOn18.out)
    · exact fun _ => coreG_call _ 34 _ _ [.tmp 111, .tmp 112] _ _ _ _ _ _ _ (by rfl) Try.func34 (by kernel_rfl) (by rfl) (by rfl) (wants_core 52 110 52 _ _ _ (by rfl) (by rfl) (by rfl) (known_core 52 110 _ _ (of_decide_eq_true (by rfl)) (by rfl) (by rfl) (by rfl)) _ (by rfl)) (.cons (known_core 53 111 _ _ (of_decide_eq_true (by rfl)) (by rfl) (by rfl) (by rfl)) (.cons (known_core 54 112 _ _ (of_decide_eq_true (by rfl)) (by rfl) (by rfl) (by rfl)) .nil)) (HG1.out)
    · exact fun _ => coreG_call _ 36 _ _ [.const (.int .u64 6)] _ _ _ _ _ _ _ (by rfl) Try.func36 (by kernel_rfl) (by rfl) (by rfl) (wants_core 52 110 52 _ _ _ (by rfl) (by rfl) (by rfl) (known_core 52 110 _ _ (of_decide_eq_true (by rfl)) (by rfl) (by rfl) (by rfl)) _ (by rfl)) (.cons (known_const _) .nil) (HOn6.out)
    · exact core_stepAs _ (by rfl)
    · exact core_stepAs _ (by rfl)
    · exact core_stepAs _ (by rfl)
    · exact fun _ => coreG_call _ 36 _ _ [.const (.int .u64 0)] _ _ _ _ _ _ _ (by rfl) Try.func36 (by kernel_rfl) (by rfl) (by rfl) (wants_core 59 117 59 _ _ _ (by rfl) (by rfl) (by rfl) (known_core 59 117 _ _ (of_decide_eq_true (by rfl)) (by rfl) (by rfl) (by rfl)) _ (by rfl)) (.cons (known_const _) .nil) (HOn0.out)
    · exact fun _ => coreG_call _ 36 _ _ [.const (.int .u64 5)] _ _ _ _ _ _ _ (by rfl) Try.func36 (by kernel_rfl) (by rfl) (by rfl) (wants_core 59 117 59 _ _ _ (by rfl) (by rfl) (by rfl) (known_core 59 117 _ _ (of_decide_eq_true (by rfl)) (by rfl) (by rfl) (by rfl)) _ (by rfl)) (.cons (known_const _) .nil) (HOn5.out)
    · exact fun _ => coreG_call _ 34 _ _ [.tmp 118, .tmp 119] _ _ _ _ _ _ _ (by rfl) Try.func34 (by kernel_rfl) (by rfl) (by rfl) (wants_core 59 117 59 _ _ _ (by rfl) (by rfl) (by rfl) (known_core 59 117 _ _ (of_decide_eq_true (by rfl)) (by rfl) (by rfl) (by rfl)) _ (by rfl)) (.cons (known_core 60 118 _ _ (of_decide_eq_true (by rfl)) (by rfl) (by rfl) (by rfl)) (.cons (known_core 61 119 _ _ (of_decide_eq_true (by rfl)) (by rfl) (by rfl) (by rfl)) .nil)) (HG2.out)
    · exact fun _ => coreG_call _ 36 _ _ [.const (.int .u64 5)] _ _ _ _ _ _ _ (by rfl) Try.func36 (by kernel_rfl) (by rfl) (by rfl) (wants_core 59 117 59 _ _ _ (by rfl) (by rfl) (by rfl) (known_core 59 117 _ _ (of_decide_eq_true (by rfl)) (by rfl) (by rfl) (by rfl)) _ (by rfl)) (.cons (known_const _) .nil) (HOn5.out)
    · exact core_stepAs _ (by rfl)
    · exact core_stepAs _ (by rfl)
    · exact core_stepAs _ (by rfl)
    · exact fun _ => coreG_call _ 36 _ _ [.const (.int .u64 0)] _ _ _ _ _ _ _ (by rfl) Try.func36 (by kernel_rfl) (by rfl) (by rfl) (wants_core 66 124 66 _ _ _ (by rfl) (by rfl) (by rfl) (known_core 66 124 _ _ (of_decide_eq_true (by rfl)) (by rfl) (by rfl) (by rfl)) _ (by rfl)) (.cons (known_const _) .nil) (HOn0.out)
    · exact fun _ => coreG_call _ 36 _ _ [.const (.int .u64 0)] _ _ _ _ _ _ _ (by rfl) Try.func36 (by kernel_rfl) (by rfl) (by rfl) (wants_core 66 124 66 _ _ _ (by rfl) (by rfl) (by rfl) (known_core 66 124 _ _ (of_decide_eq_true (by rfl)) (by rfl) (by rfl) (by rfl)) _ (by rfl)) (.cons (known_const _) .nil) (HOn0.out)
    · exact fun _ => coreG_call _ 34 _ _ [.tmp 125, .tmp 126] _ _ _ _ _ _ _ (by rfl) Try.func34 (by kernel_rfl) (by rfl) (by rfl) (wants_core 66 124 66 _ _ _ (by rfl) (by rfl) (by rfl) (known_core 66 124 _ _ (of_decide_eq_true (by rfl)) (by rfl) (by rfl) (by rfl)) _ (by rfl)) (.cons (known_core 67 125 _ _ (of_decide_eq_true (by rfl)) (by rfl) (by rfl) (by rfl)) (.cons (known_core 68 126 _ _ (of_decide_eq_true (by rfl)) (by rfl) (by rfl) (by rfl)) .nil)) (HG3.out)
    · exact fun _ => coreG_call _ 36 _ _ [.const (.int .u64 0)] _ _ _ _ _ _ _ (by rfl) Try.func36 (by kernel_rfl) (by rfl) (by rfl) (wants_core 66 124 66 _ _ _ (by rfl) (by rfl) (by rfl) (known_core 66 124 _ _ (of_decide_eq_true (by rfl)) (by rfl) (by rfl) (by rfl)) _ (by rfl)) (.cons (known_const _) .nil) (HOn0.out)
    · exact core_stepAs _ (by rfl)
    · exact core_stepAs _ (by rfl)
  intro vs y25 hc
  have BZ := bel_tr BW.out hc.bel
  refine assign_one (i := 73) (.tmp 130) 0 _ _ _ (.bool true) (by kernel_rfl) (by rfl) (hc.at_ (of_decide_eq_true (by kernel_rfl)) (by rfl) 72 130 _ (.bool true) (by rfl) (by rfl) (by rfl)) (⟨Fa.out.on hc.bel, Fb.out.on hc.bel, Fc.out.on hc.bel, Fd.out.on hc.bel, Fx.out.on hc.bel, Fy.out.on hc.bel⟩) ?_
  refine wpAnyH_done (by kernel_rfl) ?_ _
  refine NoPanic.normal ?_
  generalize hA : Act.put (over _ _ vs) (some 0) (.bool true) = A
  have hA0 : A.tmps.getD 0 undef = .bool true := by rw [← hA]; exact put_at _ _ _ (by rw [over_size]; exact Nat.le_of_ble_eq_true rfl)
  have hAd : A.defers = [] := by rw [← hA, put_defers, over_defers]
  clear hA hc
  go_wp2_with fail
  refine bodyPost_ret (v := .bool true) (by simp [results, Try.results37, go_sem] at hA0 ⊢; simp [hA0]) hAd ⟨rfl, BZ⟩

/-- balefirelaw03.alive -/
theorem alive3_any (w : World) : Calls Try.prog 37 #[] w fun e w' => e = .returned (.bool true) ∧ Below w.heap.size w w' := by
  have l1 : (.agg #[.int .u64 0, .int .u64 0, .int .u64 0, .int .u64 256] : Value) = num (256 * 6277101735386680763835789423207666416102355444464034512896) := rfl
  have l2 : (.agg #[.int .u64 0, .int .u64 68719476736, .int .u64 0, .int .u64 0] : Value) = num (68719476736 * 18446744073709551616) := rfl
  have l3 : (.agg #[.int .u64 0, .int .u64 0, .int .u64 0, .int .u64 9223372036854775808] : Value) = num (9223372036854775808 * 6277101735386680763835789423207666416102355444464034512896) := rfl
  refine alive3_walk 17 5 3 2 1 0 7 12 18 6 (68719476736 * 18446744073709551616) (fun w => ofL_any 17 (by decide) w) (fun w => ofL_any 5 (by decide) w) (fun w => ofL_any 3 (by decide) w) (fun w => ofL_any 2 (by decide) w) (fun w => ofL_any 1 (by decide) w) (fun w => ofL_any 0 (by decide) w) (fun w => ofL_any 7 (by decide) w) (fun w => ofL_any 12 (by decide) w) (fun w => ofL_any 18 (by decide) w) (fun w => ofL_any 6 (by decide) w) (div_val 17 5 3 2 (by decide) (by decide) (by decide) (by decide)) ?_ (fun w => div_zero 1 w) ?_
    (wide_val 1 3 7 0 ((3 * 2 ^ 256 + 1) / 7) (by decide) (by decide) (by decide) (by decide) (by decide)) (fun w => wide_none 1 3 w) (fun w => common_any 12 18 (by decide) (by decide) w) (fun w => common_any 0 5 (by decide) (by decide) w) (fun w => common_any 0 0 (by decide) (by decide) w) ?_ w
  · rw [l1, l2]; exact div_val _ _ (68719476736 * 18446744073709551616) 0 (by decide) (by decide) (by decide) (by decide)
  · rw [l3]; exact wide_val 5 1 _ 5 2 (by decide) (by decide) (by decide) (by decide) (by decide)
  · rw [l2]; exact eqY _
end Go.Proofs.Ytgfgicpffajgdaa
