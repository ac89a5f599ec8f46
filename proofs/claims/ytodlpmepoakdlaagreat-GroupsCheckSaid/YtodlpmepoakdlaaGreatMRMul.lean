import Derived.Test.YtodlpmepoakdlaaGreatMCell
import Derived.Test.YtodlpmepoakdlaaGreatMRCmp
import Derived.Test.YtodlpmepoakdlaaGreatMSmall
namespace Go.Proofs.YtodlpmepoakdlaaGreat
set_option maxRecDepth 100000
set_option maxHeartbeats 8000000
open Go.RowKit
set_option linter.unusedSimpArgs false
set_option linter.unusedVariables false
attribute [local go_sem ↓] Go.wp_at_zero Go.wp_at_succ

section
variable {P : Program} {ops : Array Oper} {Q : Exit → Act → World → Prop} {a : Act} {W : World} {cores : List Core}
theorem core_callW (c : Core) (f : FuncId) (fn : Func) (code : Code) (xs : List Operand) (us : List Value) (tys : Array TypeId) (ty : TypeId) (pos : String) (after : Array Edge) (u : Value)
  (ho : ops[c.i]? = some ⟨some c.d, .call ⟨.value (.func f), xs.toArray, tys⟩, ty, pos, after, none⟩) (hf : P.funcs[f]? = some fn) (hn : (fn.name == "runtime.NumGoroutine") = false) (hb : fn.body = some code)
  (hk : c.kind = Kind.val u) (hx : Args a cores c.pre xs us)
  (C : ∀ w, Below W.heap.size W w → Calls P f us.toArray w fun e w' => e = .returned u ∧ Below w.heap.size w w') : Vm P ops Q a W cores c := by
 intro vs w hl hbw hp o ho' K hK
 rw [ho] at ho'
 obtain rfl := Option.some.inj ho'
 refine Ui rfl ?_
 have hargs : xs.toArray.map (over a (cores.map (·.d)) vs).eval = us.toArray := by
  rw [List.map_toArray]
  congr 1
  clear ho C ho'
  induction hx with
  | nil => rfl
  | cons h _ ih => rw [List.map_cons, h vs w hl hp, ih]
 have hrun : ∀ w, (execOp (over a (cores.map (·.d)) vs).eval ⟨some c.d, .call ⟨.value (.func f), xs.toArray, tys⟩, ty, pos, after, none⟩).run P w = .ok (.enter f us.toArray) w := fun w => by
  have h := Vx hf hn hb us.toArray w
  simp only [execOp, resolve, hargs]
  simpa [Act.eval, Deferred.ofValue, invoke, go_sem] using h
 unfold Oper.wp
 rw [hrun w, Oper.upon_enter]
 refine (C w hbw).mono fun e w' ⟨he, hb⟩ => ?_
 subst he
 exact hK.out u w' hb (by rw [hk]; exact rfl) (fun h => by rw [hk] at h; cases h)
end

theorem slice_low_run (dst : Option Tmp) (ty : TypeId) (pos : String) (after : Array Edge) (gd : Option (Nat × Bool)) (x : Operand) (ρ : Operand → Value) (w : World) (g : Nat) (hx : ρ x = .pointer (some ⟨g, 0, none⟩)) (hc : ρ (.const (.int .i64 16)) = .int .i64 16) :
  (execOp ρ ⟨dst, .slice 92 x none (some (.const (.int .i64 16))) none, ty, pos, after, gd⟩).run Tryz.prog w = .ok (.value (.slice (some ⟨g, 0, none⟩) 16 32)) w := by
 simp [execOp, hx, hc, go_sem]
theorem slice_high_run (dst : Option Tmp) (ty : TypeId) (pos : String) (after : Array Edge) (gd : Option (Nat × Bool)) (x : Operand) (ρ : Operand → Value) (w : World) (g : Nat) (hx : ρ x = .pointer (some ⟨g, 0, none⟩)) (hc : ρ (.const (.int .i64 16)) = .int .i64 16) :
  (execOp ρ ⟨dst, .slice 92 x (some (.const (.int .i64 16))) none none, ty, pos, after, gd⟩).run Tryz.prog w = .ok (.value (.slice (some ⟨g, 16, none⟩) 16 16)) w := by
 simp [execOp, hx, hc, go_sem]

theorem rmul_num (x y m c : Nat) (hx : x < 65536) (hy : y < 65536) (hm : m < 65536) (hc : c < 65536) : ∃ n l c' : Nat, n = m + x * y + c ∧ l = n % 65536 ∧ c' = n / 65536 ∧ l < 65536 ∧ c' < 65536 ∧ n < 4294967296 ∧ x * y < 4294836226 ∧ x * y + m + c = l + 65536 * c' := by
 have : x * y ≤ 65535 * 65535 := Nat.mul_le_mul (by omega) (by omega)
 exact ⟨_, _, _, rfl, rfl, rfl, by omega, by omega, by omega, by omega, by omega⟩

def rmulRes (X Y : Nat) (e : Ending) : Prop := ∃ L H : Nat, e = .returned (.tuple #[num L, num H]) ∧ L < 65536 ^ 16 ∧ H < 65536 ^ 16 ∧ X * Y = L + 65536 ^ 16 * H
theorem rmul_walk (X Y : Nat) (hX : X < 2 ^ 256) (hY : Y < 2 ^ 256) (w : World) : Calls Tryz.prog 64 #[num X, num Y] w fun e w' => rmulRes X Y e ∧ Below w.heap.size w w' := by
 have CX := Xa X; have CY := Xa Y
 have HCX := Jfg CX; have HCY := Jfg CY
 clear CX CY
 have HX := Jfg hX; have HY := Jfg hY; clear hX hY
 go_enter Tryz.func64, Tryz.ntmps64
 go_wp2_with fail
 have BW := Jfg (Below.refl w.heap.size w)
 generalize hW1 : ((((w.alloc (.cells (ncs X) 24)).alloc (.cells (ncs Y) 24)).alloc (.cells #[.int .u64 0, .int .u64 0, .int .u64 0, .int .u64 0] 24)).alloc (.cells #[.int .u64 0, .int .u64 0, .int .u64 0, .int .u64 0] 24)) = W1 at *
 have Na : At W1 (w.heap.size) _ _ := Jb hW1 ((((At.at_ _ _ _ _ (by simp)).alloc _).alloc _).alloc _)
 have Nb : At W1 (w.heap.size + 1) _ _ := Jb hW1 (((At.at_ _ _ _ _ (by simp)).alloc _).alloc _)
 have Np : At W1 (w.heap.size + 1 + 1) _ _ := Jb hW1 ((At.at_ _ _ _ _ (by simp)).alloc _)
 have Ep : w.heap.size ≤ w.heap.size + 1 + 1 := by have := BW.out.size; omega
 have Dap : w.heap.size ≠ w.heap.size + 1 + 1 := by omega
 have Dbp : w.heap.size + 1 ≠ w.heap.size + 1 + 1 := by omega
 have Nq : At W1 (w.heap.size + 1 + 1 + 1) _ _ := Jb hW1 (At.at_ _ _ _ _ (by simp))
 have Eq : w.heap.size ≤ w.heap.size + 1 + 1 + 1 := by have := BW.out.size; omega
 have Daq : w.heap.size ≠ w.heap.size + 1 + 1 + 1 := by omega
 have Dbq : w.heap.size + 1 ≠ w.heap.size + 1 + 1 + 1 := by omega
 have Dpq : w.heap.size + 1 + 1 ≠ w.heap.size + 1 + 1 + 1 := by omega
 have NB := gr_of hW1 (gr_alloc (gr_alloc (gr_alloc (gr_alloc BW.out _) _) _) _)
 clear BW
 clear hW1
 generalize w.heap.size + 1 + 1 + 1 = gq at *
 generalize w.heap.size + 1 + 1 = gp at *
 generalize w.heap.size + 1 = gb at *
 obtain ⟨ga, hg0⟩ : ∃ g, g = w.heap.size := ⟨_, rfl⟩
 rw [← hg0] at Na ⊢
 rw [← hg0] at Dap Daq
 clear hg0
 have Fa := Jfg Na
 have Fb := Jfg Nb
 have Fp := Jfg Np
 have Fq := Jfg Nq
 have BW := Jfg NB
 clear NB Na Nb Np Nq
 refine (HCX.out _).mono ?_
 rintro e v2 ⟨rfl, z2⟩
 have Na := Jfg (Fa.out.on z2)
 have Nb := Jfg (Fb.out.on z2)
 have Np := Jfg (Fp.out.on z2)
 have Nq := Jfg (Fq.out.on z2)
 have NB := Jfg (bel_tr BW.out z2)
 clear BW z2 Fa Fb Fp Fq
 have Fa := Na
 have Fb := Nb
 have Fp := Np
 have Fq := Nq
 have BW := NB
 clear NB Na Nb Np Nq
 have Lb := Fb.out.lt
 obtain ⟨cb0, cb1, cb2, cb3⟩ := Ka Fb.out
 go_wp2_with fail
 generalize hW3 : (v2.alloc (.cells #[.int .u64 (dg X 0), .int .u64 (dg X 1), .int .u64 (dg X 2), .int .u64 (dg X 3), .int .u64 (dg X 4), .int .u64 (dg X 5), .int .u64 (dg X 6), .int .u64 (dg X 7), .int .u64 (dg X 8), .int .u64 (dg X 9), .int .u64 (dg X 10), .int .u64 (dg X 11), .int .u64 (dg X 12), .int .u64 (dg X 13), .int .u64 (dg X 14), .int .u64 (dg X 15)] 61)) = W3 at *
 clear Lb cb0 cb1 cb2 cb3
 have Nx : At W3 (v2.heap.size) _ _ := Jb hW3 (At.at_ _ _ _ _ (by simp))
 have Dpx : gp ≠ v2.heap.size := by have := Fp.out.lt; omega
 have Dqx : gq ≠ v2.heap.size := by have := Fq.out.lt; omega
 have Na := Jb hW3 (Fa.out.alloc _)
 have Nb := Jb hW3 (Fb.out.alloc _)
 have Np := Jb hW3 (Fp.out.alloc _)
 have Nq := Jb hW3 (Fq.out.alloc _)
 have NB := gr_of hW3 (gr_alloc BW.out _)
 clear BW Fa Fb Fp Fq
 clear hW3
 generalize v2.heap.size = gx at *
 have Fa := Jfg Na
 have Fb := Jfg Nb
 have Fp := Jfg Np
 have Fq := Jfg Nq
 have Fx := Jfg Nx
 have BW := Jfg NB
 clear NB Na Nb Np Nq Nx
 refine (HCY.out _).mono ?_
 rintro e v4 ⟨rfl, z4⟩
 have Na := Jfg (Fa.out.on z4)
 have Nb := Jfg (Fb.out.on z4)
 have Np := Jfg (Fp.out.on z4)
 have Nq := Jfg (Fq.out.on z4)
 have Nx := Jfg (Fx.out.on z4)
 have NB := Jfg (bel_tr BW.out z4)
 clear BW z4 Fa Fb Fp Fq Fx
 have Fa := Na
 have Fb := Nb
 have Fp := Np
 have Fq := Nq
 have Fx := Nx
 have BW := NB
 clear NB Na Nb Np Nq Nx
 go_wp2_with fail
 generalize hW5 : ((v4.alloc (.cells #[.int .u64 (dg Y 0), .int .u64 (dg Y 1), .int .u64 (dg Y 2), .int .u64 (dg Y 3), .int .u64 (dg Y 4), .int .u64 (dg Y 5), .int .u64 (dg Y 6), .int .u64 (dg Y 7), .int .u64 (dg Y 8), .int .u64 (dg Y 9), .int .u64 (dg Y 10), .int .u64 (dg Y 11), .int .u64 (dg Y 12), .int .u64 (dg Y 13), .int .u64 (dg Y 14), .int .u64 (dg Y 15)] 61)).alloc (.cells #[.int .u64 0, .int .u64 0, .int .u64 0, .int .u64 0, .int .u64 0, .int .u64 0, .int .u64 0, .int .u64 0, .int .u64 0, .int .u64 0, .int .u64 0, .int .u64 0, .int .u64 0, .int .u64 0, .int .u64 0, .int .u64 0, .int .u64 0, .int .u64 0, .int .u64 0, .int .u64 0, .int .u64 0, .int .u64 0, .int .u64 0, .int .u64 0, .int .u64 0, .int .u64 0, .int .u64 0, .int .u64 0, .int .u64 0, .int .u64 0, .int .u64 0, .int .u64 0] 92)) = W5 at *
 have Ny : At W5 (v4.heap.size) _ _ := Jb hW5 ((At.at_ _ _ _ _ (by simp)).alloc _)
 have Dpy : gp ≠ v4.heap.size := by have := Fp.out.lt; omega
 have Dqy : gq ≠ v4.heap.size := by have := Fq.out.lt; omega
 have Nd : At W5 (v4.heap.size + 1) _ _ := Jb hW5 (At.at_ _ _ _ _ (by simp))
 have Ed : w.heap.size ≤ v4.heap.size + 1 := by have := BW.out.size; omega
 have Dad : ga ≠ v4.heap.size + 1 := by have := Fa.out.lt; omega
 have Dbd : gb ≠ v4.heap.size + 1 := by have := Fb.out.lt; omega
 have Dpd : gp ≠ v4.heap.size + 1 := by have := Fp.out.lt; omega
 have Dqd : gq ≠ v4.heap.size + 1 := by have := Fq.out.lt; omega
 have Dxd : gx ≠ v4.heap.size + 1 := by have := Fx.out.lt; omega
 have Dyd : v4.heap.size ≠ v4.heap.size + 1 := by omega
 have Na := Jb hW5 ((Fa.out.alloc _).alloc _)
 have Nb := Jb hW5 ((Fb.out.alloc _).alloc _)
 have Np := Jb hW5 ((Fp.out.alloc _).alloc _)
 have Nq := Jb hW5 ((Fq.out.alloc _).alloc _)
 have Nx := Jb hW5 ((Fx.out.alloc _).alloc _)
 have NB := gr_of hW5 (gr_alloc (gr_alloc BW.out _) _)
 clear BW Fa Fb Fp Fq Fx
 clear hW5
 generalize v4.heap.size + 1 = gd at *
 generalize v4.heap.size = gy at *
 have Fa := Jfg Na
 have Fb := Jfg Nb
 have Fp := Jfg Np
 have Fq := Jfg Nq
 have Fx := Jfg Nx
 have Fy := Jfg Ny
 have Fd := Jfg Nd
 have BW := Jfg NB
 clear NB Na Nb Np Nq Nx Ny Nd
 clear Fa
 clear Fb
 go_loopw [9] (fun s wr => ∃ (i : Nat) (L : List Nat), i ≤ 16 ∧ s = .int .i64 (i : Nat) ∧ Hid (At wr gx 61 (ws (ds X)) ∧ At wr gy 61 (ws (ds Y)) ∧ At wr gp 24 #[.int .u64 0, .int .u64 0, .int .u64 0, .int .u64 0] ∧ At wr gq 24 #[.int .u64 0, .int .u64 0, .int .u64 0, .int .u64 0] ∧ At wr gd 92 (ws L) ∧ Below w.heap.size w wr ∧ L.length = 32 ∧ (∀ x ∈ L, x < 65536) ∧ (∀ k, i + 16 ≤ k → L.getD k 0 = 0) ∧ lv 65536 L = X % 65536 ^ i * Y)) (fun s _ => 16 - (intOf s).toNat)
 case atStart =>
  refine ⟨0, List.replicate 32 0, by omega, rfl, ⟨Fx.out, Fy.out, Fp.out, Fq.out, Fd.out, BW.out, by simp, fun x hx => by rw [List.eq_of_mem_replicate hx]; omega, fun k _ => ?_, by simp [lv, Nat.mod_one]⟩⟩
  simp only [List.getD, List.getElem?_replicate]; split <;> rfl
 case round =>
  obtain ⟨i, L, hi, rfl, hH⟩ := hrel
  clear Fx Fy Fp Fq Fd BW
  by_cases hlt : i < 16
  ·have i0 : (0 : Int) ≤ (i : Int) := by omega
   have i16 : (i : Int) < 16 := by omega
   go_wp2_with fail
   go_loopw [10, 11] (fun c s wr => ∃ (j cc : Nat) (L : List Nat), j ≤ 16 ∧ c = .int .u64 (cc : Nat) ∧ s = .int .i64 (j : Nat) ∧ Hid (At wr gx 61 (ws (ds X)) ∧ At wr gy 61 (ws (ds Y)) ∧ At wr gp 24 #[.int .u64 0, .int .u64 0, .int .u64 0, .int .u64 0] ∧ At wr gq 24 #[.int .u64 0, .int .u64 0, .int .u64 0, .int .u64 0] ∧ At wr gd 92 (ws L) ∧ Below w.heap.size w wr ∧ L.length = 32 ∧ (∀ x ∈ L, x < 65536) ∧ (∀ k, i + 16 ≤ k → L.getD k 0 = 0) ∧ cc < 65536 ∧ lv 65536 L + 65536 ^ (i + j) * cc = X % 65536 ^ i * Y + 65536 ^ i * (dg X i * (Y % 65536 ^ j)))) (fun _ s _ => 16 - (intOf s).toNat)
   case atStart => exact ⟨0, 0, L, by omega, rfl, rfl, hH.out.1, hH.out.2.1, hH.out.2.2.1, hH.out.2.2.2.1, hH.out.2.2.2.2.1, hH.out.2.2.2.2.2.1, hH.out.2.2.2.2.2.2.1, hH.out.2.2.2.2.2.2.2.1, hH.out.2.2.2.2.2.2.2.2.1, by omega, by rw [hH.out.2.2.2.2.2.2.2.2.2]; simp [Nat.mod_one]⟩
   case round =>
    clear hH
    obtain ⟨j, cc, M, hj, rfl, rfl, hM⟩ := hrel
    obtain ⟨Ax, Ay, Ap, Aq, Ad, AB, hlen, hbd, hze, hcc, hinv⟩ := hM.out
    have HAx := Jfg Ax; have HAy := Jfg Ay; have HAp := Jfg Ap; have HAq := Jfg Aq; have HAd := Jfg Ad; have HAB := Jfg AB; have HLEN := Jfg hlen; have HBD := Jfg hbd; have HZE := Jfg hze; have HCC := Jfg hcc; have HINV := Jfg hinv
    clear Ax Ay Ap Aq Ad AB hlen hbd hze hinv hM hcc
    by_cases hjt : j < 16
    ·have hml := Jds HBD.out (i + j) (by rw [HLEN.out]; omega)
     obtain ⟨n, l, c', hn, hl, hc', hll, hcl, hnl, hxy, hst⟩ := rmul_num (dg X i) (dg Y j) (M.getD (i + j) 0) cc (Jag X i) (Jag Y j) hml HCC.out
     have fx : wr.drew.cell? ⟨gx, i, none⟩ = some (.int .u64 (dg X i)) := by rw [HAx.out.drew.cell, Wk _ _ (by rw [Jcf]; omega), Jcg X i hlt]
     have fy : wr.drew.cell? ⟨gy, j, none⟩ = some (.int .u64 (dg Y j)) := by rw [HAy.out.drew.cell, Wk _ _ (by rw [Jcf]; omega), Jcg Y j hjt]
     have fd : wr.drew.cell? ⟨gd, i + j, none⟩ = some (.int .u64 (M.getD (i + j) 0 : Nat)) := by rw [HAd.out.drew.cell, Wk _ _ (by rw [HLEN.out]; omega)]
     have ff : wr.drew.frozen? ⟨gd, i + j, none⟩ = false := HAd.out.drew.frozen (i + j)
     have hcc := HCC.out
     have j0 : (0 : Int) ≤ (j : Int) := by omega
     have j16 : (j : Int) < 16 := by omega
     obtain ⟨s, hs⟩ : ∃ s, s = i + j := ⟨_, rfl⟩
     have v0 : IntKind.i64.wrap ((i : Int) + (j : Int)) = (s : Nat) := by rw [IntKind.wrap_i64]; omega
     have v0b : (i : Int) + (j : Int) = (s : Nat) := by omega
     have v0c : IntKind.i64.wrap ((s : Nat) : Int) = (s : Nat) := by rw [IntKind.wrap_i64]; omega
     have s0 : (0 : Int) ≤ (s : Int) := by omega
     have s32 : (s : Int) < 32 := by omega
     have hmx := Jag X i
     have hmy := Jag Y j
     rw [← hs] at fd ff hn hst hml
     obtain ⟨m, hm⟩ : ∃ m, M.getD s 0 = m := ⟨_, rfl⟩
     rw [hm] at fd hn hst hml
     have v1 : IntKind.u64.wrap (((dg X i : Nat) : Int) * ((dg Y j : Nat) : Int)) = ((dg X i * dg Y j : Nat) : Int) := by rw [← Int.natCast_mul, IntKind.wrap_u64]; omega
     have v2 : IntKind.u64.wrap ((m : Int) + ((dg X i * dg Y j : Nat) : Int)) = ((m + dg X i * dg Y j : Nat) : Int) := by rw [IntKind.wrap_u64]; omega
     have v3 : IntKind.u64.wrap (((m + dg X i * dg Y j : Nat) : Int) + (cc : Int)) = (n : Nat) := by rw [hn, IntKind.wrap_u64]; omega
     have v4 : Int.tmod (n : Int) 65536 = (l : Nat) := by rw [hl, Int.tmod_eq_emod_of_nonneg (by omega)]; omega
     have v5 : Int.tdiv (n : Int) 65536 = (c' : Nat) := by rw [hc', Int.tdiv_eq_ediv_of_nonneg (by omega)]; omega
     have v4b : (n : Int) % 65536 = (l : Nat) := by omega
     have v5b : (n : Int) / 65536 = (c' : Nat) := by omega
     have HST := Jfg hst; have HLL := Jfg hll; have HCL := Jfg hcl; have HS := Jfg hs; have HM := Jfg hm
     clear hst hn hl hc' hll hcl hs hm
     generalize hq1 : m + dg X i * dg Y j = q1 at *
     generalize hq2 : dg X i * dg Y j = q2 at *
     have HQ1 := Jfg hq1; have HQ2 := Jfg hq2
     clear hq1 hq2
     generalize hq3 : dg X i = xi at *
     generalize hq4 : dg Y j = yj at *
     have HQ3 := Jfg hq3; have HQ4 := Jfg hq4
     clear hq3 hq4
     go_wp2_with fail
     refine wp_region_still_tail 15 (by kernel_rfl) (by kernel_rfl) ?_
     simp only [List.take_succ_cons, List.take_zero, List.drop_succ_cons, List.drop_zero]
     change wpStill _ _ wr.drew (fun a' => wpList _ _ _ _ a' wr.drew) _ _
     obtain ⟨wj, hwj⟩ : ∃ wj, wr.drew = wj := ⟨_, rfl⟩
     have hwj' := Jfg hwj
     rw [hwj] at fx fy fd ff ⊢
     clear hwj
     repeat still_step
     refine wpStill_nil ?_
     go_wp2
     go_roundw
     case rel =>
      first
       | refine ⟨j + 1, c', M.set s l, by omega, rfl, by go_num, ?_⟩
       | ((repeat apply Exists.intro); refine ⟨⟨j + 1, c', M.set s l, by omega, rfl, by go_num, ?_⟩, rfl⟩)
      rw [← hwj'.out]
      have hs := HS.out
      have nx : gx ≠ gd := by first | exact Dxd | exact Ddx.symm
      have ny : gy ≠ gd := by first | exact Dyd | exact Ddy.symm
      have np : gp ≠ gd := by first | exact Dpd | exact Ddp.symm
      have nq : gq ≠ gd := by first | exact Dqd | exact Ddq.symm
      refine ⟨HAx.out.drew.far (by exact fun e => nx e.symm) _, HAy.out.drew.far (by exact fun e => ny e.symm) _, HAp.out.drew.far (by exact fun e => np e.symm) _, HAq.out.drew.far (by exact fun e => nq e.symm) _, by rw [← Uz]; exact HAd.out.drew.set _ _, HAB.out.drew.setCell Ed _, by rw [List.length_set]; exact HLEN.out, fun x hx => ?_, fun k h1 => ?_, HCL.out, ?_⟩
      ·rcases List.mem_or_eq_of_mem_set hx with h | h
       ·exact HBD.out x h
       ·rw [h]; exact HLL.out
      ·rw [Uq _ _ _ _ (by omega)]; exact HZE.out k h1
      ·rw [hs]
       refine row_step _ _ _ _ cc _ _ _ _ M (by rw [HLEN.out]; omega) HINV.out ?_
       rw [← hs, HM.out]
       have e := HST.out
       rw [← HQ2.out, ← HQ4.out] at e
       exact e
     case measure => simp [intOf]; omega
    ·obtain rfl : j = 16 := by omega
     have fm : wr.cell? ⟨gd, i + 16, none⟩ = some (.int .u64 0) := by rw [HAd.out.cell, Wk _ _ (by rw [HLEN.out]; omega), HZE.out (i + 16) (by omega)]; rfl
     have ff : wr.frozen? ⟨gd, i + 16, none⟩ = false := HAd.out.frozen _
     have v0 : IntKind.i64.wrap ((i : Int) + 16) = (i : Int) + 16 := by rw [IntKind.wrap_i64]; omega
     go_wp2
     go_roundw
     case rel =>
      have nx : gx ≠ gd := by first | exact Dxd | exact Ddx.symm
      have ny : gy ≠ gd := by first | exact Dyd | exact Ddy.symm
      have np : gp ≠ gd := by first | exact Dpd | exact Ddp.symm
      have nq : gq ≠ gd := by first | exact Dqd | exact Ddq.symm
      have goalH : Hid (At (wr.setCell ⟨gd, i + 16, none⟩ (.int .u64 (cc : Nat))) gx 61 (ws (ds X)) ∧ At (wr.setCell ⟨gd, i + 16, none⟩ (.int .u64 (cc : Nat))) gy 61 (ws (ds Y)) ∧ At (wr.setCell ⟨gd, i + 16, none⟩ (.int .u64 (cc : Nat))) gp 24 #[.int .u64 0, .int .u64 0, .int .u64 0, .int .u64 0] ∧ At (wr.setCell ⟨gd, i + 16, none⟩ (.int .u64 (cc : Nat))) gq 24 #[.int .u64 0, .int .u64 0, .int .u64 0, .int .u64 0] ∧ At (wr.setCell ⟨gd, i + 16, none⟩ (.int .u64 (cc : Nat))) gd 92 (ws (M.set (i + 16) cc)) ∧ Below w.heap.size w (wr.setCell ⟨gd, i + 16, none⟩ (.int .u64 (cc : Nat))) ∧ (M.set (i + 16) cc).length = 32 ∧ (∀ x ∈ M.set (i + 16) cc, x < 65536) ∧ (∀ k, i + 1 + 16 ≤ k → (M.set (i + 16) cc).getD k 0 = 0) ∧ lv 65536 (M.set (i + 16) cc) = X % 65536 ^ (i + 1) * Y) := by
       have hy := HY.out
       refine ⟨HAx.out.far (by exact fun e => nx e.symm) _, HAy.out.far (by exact fun e => ny e.symm) _, HAp.out.far (by exact fun e => np e.symm) _, HAq.out.far (by exact fun e => nq e.symm) _, by rw [← Uz]; exact HAd.out.set _ _, HAB.out.setCell Ed _, by rw [List.length_set]; exact HLEN.out, fun x hx => ?_, fun k h1 => ?_, ?_⟩
       ·rcases List.mem_or_eq_of_mem_set hx with h | h
        ·exact HBD.out x h
        ·rw [h]; exact HCC.out
       ·rw [Uq _ _ _ _ (by omega)]; exact HZE.out k (by omega)
       ·exact row_done _ X Y 16 i cc M (by omega) (by rw [HLEN.out]; omega) (HZE.out (i + 16) (by omega)) HINV.out
      first
       | exact ⟨i + 1, M.set (i + 16) cc, by omega, by go_num, goalH⟩
       | ((repeat apply Exists.intro); exact ⟨⟨i + 1, M.set (i + 16) cc, by omega, by go_num, goalH⟩, rfl⟩)
     case measure => simp [intOf]; omega
  ·obtain rfl : i = 16 := by omega
   obtain ⟨Ax, Ay, Ap, Aq, Ad, AB, hlen, hbd, hze, hinv⟩ := hH.out
   have hx := HX.out
   have hy := HY.out
   rw [Nat.mod_eq_of_lt (show X < 65536 ^ 16 by omega)] at hinv
   have happ := Jca 65536 (L.take 16) (L.drop 16)
   rw [List.take_append_drop, List.length_take, Nat.min_eq_left (by omega), hinv] at happ
   have h1 := Jed 65536 (L.take 16) (fun x hx => hbd x (List.mem_of_mem_take hx))
   have h2 := Jed 65536 (L.drop 16) (fun x hx => hbd x (List.mem_of_mem_drop hx))
   rw [List.length_take, Nat.min_eq_left (by omega)] at h1
   rw [List.length_drop, hlen] at h2
   have C1 := fun w' (hb : Below wr.heap.size wr w') => Jcq (L.take 16) (by rw [List.length_take]; omega) (fun x hx => hbd x (List.mem_of_mem_take hx)) gd 0 32 w' (fun k hk => by
    rw [Nat.zero_add, (Ad.on hb).cell, Wk _ _ (by omega)]; simp [List.getD, List.getElem?_take, hk])
   have C2 := fun w' (hb : Below wr.heap.size wr w') => Jcq (L.drop 16) (by rw [List.length_drop]; omega) (fun x hx => hbd x (List.mem_of_mem_drop hx)) gd 16 16 w' (fun k hk => by
    rw [(Ad.on hb).cell, Wk _ _ (by omega)]; simp [List.getD, List.getElem?_drop])
   obtain ⟨A, hA⟩ : ∃ A, lv 65536 (L.take 16) = A := ⟨_, rfl⟩
   obtain ⟨B, hB⟩ : ∃ B, lv 65536 (L.drop 16) = B := ⟨_, rfl⟩
   rw [hA] at C1 happ h1
   rw [hB] at C2 happ h2
   have HC1 := Jfg C1; have HC2 := Jfg C2; have HAPP := Jfg happ; have HH1 := Jfg h1; have HH2 := Jfg h2
   have Fp := Jfg Ap; have Fq := Jfg Aq; have BW := Jfg AB; have Fd := Jfg Ad
   clear C1 C2 happ h1 h2 hA hB Ap Aq AB Ad Ax Ay hlen hbd hze hinv hH hx hy
   go_wp2_with fail
   try simp only [List.append_eq, List.cons_append, List.nil_append]
   refine wp_region_noPanic ?_
   refine wp_region_held_drew (S := fun w' => True) (by kernel_rfl) (trivial) (fun _ => ?_)
   refine Jo (fuel := 2) (⟨0, 52, [], Kind.val (.slice (some ⟨gd, 0, none⟩) 16 32), true⟩ :: ⟨1, 53, [0], Kind.val (num A), false⟩ :: ⟨2, 54, [], Kind.val (.slice (some ⟨gd, 16, none⟩) 16 16), true⟩ :: ⟨3, 55, [2, 1], Kind.val (num B), false⟩ :: []) _ _ wr _ ?_ ?_ ?_ ?_ ?_ ?_ ?_ ?_ ?_ ?_ ?_
   ·rfl
   ·kernel_rfl
   ·exact of_decide_eq_true rfl
   ·(repeat refine all_cons ⟨_, rfl, rfl⟩ ?_); exact Je
   ·exact fun _ hb => trivial
   ·exact (Below.refl _ _).drew
   ·kernel_rfl
   ·exact fun _ _ _ _ _ h => h
   ·(repeat (refine all_cons ?_ ?_; rotate_left)); exact Je
    ·exact Ws _ _ _ _ _ _ (by rfl) (by rfl) (fun vs w hl hp w' => slice_low_run _ _ _ _ _ _ _ w' gd ((show Ve _ _ [] (.tmp 8) (.pointer (some ⟨gd, 0, none⟩)) from Jav 8 _ (of_decide_eq_true (by rfl)) (by rfl)) vs w hl (fun _ h => by cases h)) rfl)
    ·exact Ji _ (by rfl)
    ·exact Ws _ _ _ _ _ _ (by rfl) (by rfl) (fun vs w hl hp w' => slice_high_run _ _ _ _ _ _ _ w' gd ((show Ve _ _ [] (.tmp 8) (.pointer (some ⟨gd, 0, none⟩)) from Jav 8 _ (of_decide_eq_true (by rfl)) (by rfl)) vs w hl (fun _ h => by cases h)) rfl)
    ·exact Ji _ (by rfl)
   ·(repeat (refine all_cons ?_ ?_; rotate_left)); exact Je
    ·exact sA
    ·exact fun _ => core_callW _ 55 _ _ [.tmp 52] _ _ _ _ _ _ (by rfl) Tryz.func55 (by kernel_rfl) (by rfl) (by rfl) (.cons (kc 0 52) .nil) (HC1.out)
    ·exact sA
    ·exact fun _ => core_callW _ 55 _ _ [.tmp 54] _ _ _ _ _ _ (by rfl) Tryz.func55 (by kernel_rfl) (by rfl) (by rfl) (.cons (kc 2 54) .nil) (HC2.out)
   intro vs y51 hc
   obtain ⟨vv0, vv1, vv2, vv3, rfl⟩ := len4 vs hc.lv
   have qq0 := okv hc 0
   have qq1 := okv hc 1
   have qq2 := okv hc 2
   have qq3 := okv hc 3
   have BZ := hc.bel
   clear hc
   have Np := Fp.out.on BZ
   have Nq := Fq.out.on BZ
   have HSZ51 := BW.out.size
   have NB := bel_tr BW.out BZ
   clear BW BZ Fp Fq
   subst qq0 qq1 qq2 qq3
   simp only [List.map_cons, List.map_nil, over, Act.put, List.setIfInBounds_toArray, List.set_cons_zero, List.set_cons_succ]
   have OLD := Np
   replace Np := p4a Np A
   replace Nq := p4f Nq Dpq.symm A
   replace NB := p4b NB Ep A
   refine Kt (i := 4) _ _ _ _ _ gp _ _ _ _ _ _ _ _ (by kernel_rfl) (by rfl) (by rfl) (by rfl) OLD (trivial) ?_
   clear OLD
   generalize (put4 y51 gp (.int .u64 (wd A 0)) (.int .u64 (wd A 1)) (.int .u64 (wd A 2)) (.int .u64 (wd A 3))) = y51_4 at *
   have OLD := Nq
   replace Np := p4f Np Dpq B
   replace Nq := p4a Nq B
   replace NB := p4b NB Eq B
   refine Kt (i := 5) _ _ _ _ _ gq _ _ _ _ _ _ _ _ (by kernel_rfl) (by rfl) (by rfl) (by rfl) OLD (trivial) ?_
   clear OLD
   generalize (put4 y51_4 gq (.int .u64 (wd B 0)) (.int .u64 (wd B 1)) (.int .u64 (wd B 2)) (.int .u64 (wd B 3))) = y51_5 at *
   refine wpAnyH_done (by kernel_rfl) ?_ _
   refine NoPanic.normal ?_
   have Fp := Jfg Np
   have Fq := Jfg Nq
   have BW := Jfg NB
   clear NB Np Nq
   clear HSZ51
   have Lp := Fp.out.lt
   obtain ⟨cp0, cp1, cp2, cp3⟩ := Ka Fp.out
   have Lq := Fq.out.lt
   obtain ⟨cq0, cq1, cq2, cq3⟩ := Ka Fq.out
   go_wp2_with fail
   refine bodyPost_ret (v := .tuple #[num A, num B]) (by simp [results, Tryz.results64, go_sem, *]) rfl ⟨⟨A, B, rfl, HH1.out, HH2.out, HAPP.out⟩, BW.out⟩

theorem Jbl (X Y L H : Nat) (hX : X < 2 ^ 256) (hY : Y < 2 ^ 256) (hL : L < 2 ^ 256) (hH : H < 2 ^ 256) (he : X * Y = L + 2 ^ 256 * H) (w : World) : Calls Tryz.prog 64 #[num X, num Y] w fun e w' => e = .returned (.tuple #[num L, num H]) ∧ Below w.heap.size w w' := by
 refine (rmul_walk X Y hX hY w).mono ?_
 rintro e w' ⟨⟨L', H', rfl, h1, h2, h3⟩, hb⟩
 have e1 : L' = L ∧ H' = H := by omega
 obtain ⟨rfl, rfl⟩ := e1
 exact ⟨rfl, hb⟩
end Go.Proofs.YtodlpmepoakdlaaGreat
