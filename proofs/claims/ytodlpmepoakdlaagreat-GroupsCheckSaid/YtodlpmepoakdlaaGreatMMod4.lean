import Derived.Test.YtodlpmepoakdlaaGreatMMod2
import Derived.Test.YtodlpmepoakdlaaGreatMRCore2
import Derived.Test.YtodlpmepoakdlaaGreatMSmall
namespace Go.Proofs.YtodlpmepoakdlaaGreat
set_option maxRecDepth 100000
set_option maxHeartbeats 8000000
open Go.RowKit
set_option linter.unusedSimpArgs false
set_option linter.unusedVariables false
attribute [local go_sem ↓] Go.wp_at_zero Go.wp_at_succ

theorem red_walk (gt gm M T low high often h1 l2 off rest : Nat)
  (c1 : ∀ w, Calls Tryz.prog 60 #[num low, num T] w fun e w' => e = .returned (.tuple #[num often, num h1]) ∧ Below w.heap.size w w')
  (c2 : ∀ w, Calls Tryz.prog 60 #[num often, num M] w fun e w' => e = .returned (.tuple #[num l2, num off]) ∧ Below w.heap.size w w')
  (c3 : ∀ w, Calls Tryz.prog 96 #[num high, num off, num M] w fun e w' => e = .returned (.tuple #[num rest, .int .i64 0]) ∧ Below w.heap.size w w')
  (w : World) (Pt : At w gt 24 (ncs T)) (Pm : At w gm 24 (ncs M)) : Calls Tryz.prog 98 #[num low, num high, .pointer (some ⟨gt, 0, none⟩), .pointer (some ⟨gm, 0, none⟩)] w fun e w' => e = .returned (num rest) ∧ Below w.heap.size w w' := by
 have Hc1 := Jfg c1
 have Hc2 := Jfg c2
 have Hc3 := Jfg c3
 clear c1 c2 c3
 have Ft := Jfg Pt
 have Fm := Jfg Pm
 clear Pt Pm
 have Lt := Ft.out.lt
 have ct0 := Ft.out.c0; have ct1 := Ft.out.c1; have ct2 := Ft.out.c2; have ct3 := Ft.out.c3
 have Lt_1 : gt < w.heap.size + 1 := by omega
 have Lt_2 : gt < w.heap.size + 1 + 1 := by omega
 go_enter Tryz.func98, Tryz.ntmps98
 go_wp2_with fail
 clear Lt ct0 ct1 ct2 ct3 Lt_1 Lt_2
 have BW := Jfg (Below.refl w.heap.size w)
 have Eo : w.heap.size ≤ w.heap.size + 1 + 1 := by have := BW.out.size; omega
 have Dto : gt ≠ w.heap.size + 1 + 1 := by have := Ft.out.lt; omega
 have Dmo : gm ≠ w.heap.size + 1 + 1 := by have := Fm.out.lt; omega
 have Dao : w.heap.size ≠ w.heap.size + 1 + 1 := by omega
 have Dbo : w.heap.size + 1 ≠ w.heap.size + 1 + 1 := by omega
 generalize hW1 : (((w.alloc (.cells (ncs low) 24)).alloc (.cells (ncs high) 24)).alloc (.cells #[.int .u64 0, .int .u64 0, .int .u64 0, .int .u64 0] 24)) = W1 at *
 have Na : At W1 (w.heap.size) _ _ := Jb hW1 (((At.at_ _ _ _ _ (by simp)).alloc _).alloc _)
 have Nb : At W1 (w.heap.size + 1) _ _ := Jb hW1 ((At.at_ _ _ _ _ (by simp)).alloc _)
 have No : At W1 (w.heap.size + 1 + 1) _ _ := Jb hW1 (At.at_ _ _ _ _ (by simp))
 have Nt := Jb hW1 (((Ft.out.alloc _).alloc _).alloc _)
 have Nm := Jb hW1 (((Fm.out.alloc _).alloc _).alloc _)
 have NB := gr_of hW1 (gr_alloc (gr_alloc (gr_alloc BW.out _) _) _)
 clear hW1 BW Ft Fm
 generalize w.heap.size + 1 + 1 = go at *
 generalize w.heap.size + 1 = gb at *
 obtain ⟨ga, hg0⟩ : ∃ g, g = w.heap.size := ⟨_, rfl⟩
 rw [← hg0] at Na ⊢
 rw [← hg0] at Dao
 clear hg0
 have Ft := Jfg Nt
 have Fm := Jfg Nm
 have Fa := Jfg Na
 have Fb := Jfg Nb
 have Fo := Jfg No
 have BW := Jfg NB
 clear NB Nt Nm Na Nb No
 refine (Hc1.out _).mono ?_
 rintro e v2 ⟨rfl, z2⟩
 have Nt := Jfg (Ft.out.on z2)
 have Nm := Jfg (Fm.out.on z2)
 have Na := Jfg (Fa.out.on z2)
 have Nb := Jfg (Fb.out.on z2)
 have No := Jfg (Fo.out.on z2)
 have NB := Jfg (bel_tr BW.out z2)
 clear BW z2 Ft Fm Fa Fb Fo
 have Ft := Nt
 have Fm := Nm
 have Fa := Na
 have Fb := Nb
 have Fo := No
 have BW := NB
 clear NB Nt Nm Na Nb No
 have Lm := Fm.out.lt
 have cm0 := Fm.out.c0; have cm1 := Fm.out.c1; have cm2 := Fm.out.c2; have cm3 := Fm.out.c3
 go_wp2_with fail
 clear Lm cm0 cm1 cm2 cm3
 have Dop : go ≠ v2.heap.size := by have := Fo.out.lt; omega
 have Dou : go ≠ v2.heap.size + 1 := by have := Fo.out.lt; omega
 generalize hW3 : ((v2.alloc (.cells (ncs often) 24)).alloc (.cells (ncs h1) 24)) = W3 at *
 have Np : At W3 (v2.heap.size) _ _ := Jb hW3 ((At.at_ _ _ _ _ (by simp)).alloc _)
 have Nu : At W3 (v2.heap.size + 1) _ _ := Jb hW3 (At.at_ _ _ _ _ (by simp))
 have Nt := Jb hW3 ((Ft.out.alloc _).alloc _)
 have Nm := Jb hW3 ((Fm.out.alloc _).alloc _)
 have Na := Jb hW3 ((Fa.out.alloc _).alloc _)
 have Nb := Jb hW3 ((Fb.out.alloc _).alloc _)
 have No := Jb hW3 ((Fo.out.alloc _).alloc _)
 have NB := gr_of hW3 (gr_alloc (gr_alloc BW.out _) _)
 clear hW3 BW Ft Fm Fa Fb Fo
 generalize v2.heap.size + 1 = gu at *
 generalize v2.heap.size = gp at *
 have Ft := Jfg Nt
 have Fm := Jfg Nm
 have Fa := Jfg Na
 have Fb := Jfg Nb
 have Fo := Jfg No
 have Fp := Jfg Np
 have Fu := Jfg Nu
 have BW := Jfg NB
 clear NB Nt Nm Na Nb No Np Nu
 refine (Hc2.out _).mono ?_
 rintro e v4 ⟨rfl, z4⟩
 have Nt := Jfg (Ft.out.on z4)
 have Nm := Jfg (Fm.out.on z4)
 have Na := Jfg (Fa.out.on z4)
 have Nb := Jfg (Fb.out.on z4)
 have No := Jfg (Fo.out.on z4)
 have Np := Jfg (Fp.out.on z4)
 have Nu := Jfg (Fu.out.on z4)
 have NB := Jfg (bel_tr BW.out z4)
 clear BW z4 Ft Fm Fa Fb Fo Fp Fu
 have Ft := Nt
 have Fm := Nm
 have Fa := Na
 have Fb := Nb
 have Fo := No
 have Fp := Np
 have Fu := Nu
 have BW := NB
 clear NB Nt Nm Na Nb No Np Nu
 have Lb := Fb.out.lt
 have cb0 := Fb.out.c0; have cb1 := Fb.out.c1; have cb2 := Fb.out.c2; have cb3 := Fb.out.c3
 have Lm := Fm.out.lt
 have cm0 := Fm.out.c0; have cm1 := Fm.out.c1; have cm2 := Fm.out.c2; have cm3 := Fm.out.c3
 go_wp2_with fail
 clear Lb cb0 cb1 cb2 cb3 Lm cm0 cm1 cm2 cm3
 have Doq : go ≠ v4.heap.size := by have := Fo.out.lt; omega
 have Dof : go ≠ v4.heap.size + 1 := by have := Fo.out.lt; omega
 generalize hW5 : ((v4.alloc (.cells (ncs l2) 24)).alloc (.cells (ncs off) 24)) = W5 at *
 have Nq : At W5 (v4.heap.size) _ _ := Jb hW5 ((At.at_ _ _ _ _ (by simp)).alloc _)
 have Nf : At W5 (v4.heap.size + 1) _ _ := Jb hW5 (At.at_ _ _ _ _ (by simp))
 have Nt := Jb hW5 ((Ft.out.alloc _).alloc _)
 have Nm := Jb hW5 ((Fm.out.alloc _).alloc _)
 have Na := Jb hW5 ((Fa.out.alloc _).alloc _)
 have Nb := Jb hW5 ((Fb.out.alloc _).alloc _)
 have No := Jb hW5 ((Fo.out.alloc _).alloc _)
 have Np := Jb hW5 ((Fp.out.alloc _).alloc _)
 have Nu := Jb hW5 ((Fu.out.alloc _).alloc _)
 have NB := gr_of hW5 (gr_alloc (gr_alloc BW.out _) _)
 clear hW5 BW Ft Fm Fa Fb Fo Fp Fu
 generalize v4.heap.size + 1 = gf at *
 generalize v4.heap.size = gq at *
 have Ft := Jfg Nt
 have Fm := Jfg Nm
 have Fa := Jfg Na
 have Fb := Jfg Nb
 have Fo := Jfg No
 have Fp := Jfg Np
 have Fu := Jfg Nu
 have Fq := Jfg Nq
 have Ff := Jfg Nf
 have BW := Jfg NB
 clear NB Nt Nm Na Nb No Np Nu Nq Nf
 refine (Hc3.out _).mono ?_
 rintro e v6 ⟨rfl, z6⟩
 have Nt := Jfg (Ft.out.on z6)
 have Nm := Jfg (Fm.out.on z6)
 have Na := Jfg (Fa.out.on z6)
 have Nb := Jfg (Fb.out.on z6)
 have No := Jfg (Fo.out.on z6)
 have Np := Jfg (Fp.out.on z6)
 have Nu := Jfg (Fu.out.on z6)
 have Nq := Jfg (Fq.out.on z6)
 have Nf := Jfg (Ff.out.on z6)
 have NB := Jfg (bel_tr BW.out z6)
 clear BW z6 Ft Fm Fa Fb Fo Fp Fu Fq Ff
 have Ft := Nt
 have Fm := Nm
 have Fa := Na
 have Fb := Nb
 have Fo := No
 have Fp := Np
 have Fu := Nu
 have Fq := Nq
 have Ff := Nf
 have BW := NB
 clear NB Nt Nm Na Nb No Np Nu Nq Nf
 have Lo := Fo.out.lt
 have co0 := Fo.out.c0; have co1 := Fo.out.c1; have co2 := Fo.out.c2; have co3 := Fo.out.c3
 obtain ⟨fo0, fo1, fo2, fo3⟩ := Vb Fo.out
 go_wp2_with fail
 clear Lo co0 co1 co2 co3 fo0 fo1 fo2 fo3
 generalize hW7 : ((((v6.setCell ⟨go, 0, none⟩ (.int .u64 (wd rest 0))).setCell ⟨go, 1, none⟩ (.int .u64 (wd rest 1))).setCell ⟨go, 2, none⟩ (.int .u64 (wd rest 2))).setCell ⟨go, 3, none⟩ (.int .u64 (wd rest 3))) = W7 at *
 have Nt := Jb hW7 ((Ft.out).far4 Dto _ _ _ _)
 have Nm := Jb hW7 ((Fm.out).far4 Dmo _ _ _ _)
 have Na := Jb hW7 ((Fa.out).far4 Dao _ _ _ _)
 have Nb := Jb hW7 ((Fb.out).far4 Dbo _ _ _ _)
 have No := Jb hW7 ((Fo.out).put4 _ _ _ _)
 have Np := Jb hW7 ((Fp.out).far4 Dop.symm _ _ _ _)
 have Nu := Jb hW7 ((Fu.out).far4 Dou.symm _ _ _ _)
 have Nq := Jb hW7 ((Fq.out).far4 Doq.symm _ _ _ _)
 have Nf := Jb hW7 ((Ff.out).far4 Dof.symm _ _ _ _)
 have NB := gr_of hW7 (((((BW.out).setCell Eo _).setCell Eo _).setCell Eo _).setCell Eo _)
 clear hW7 BW Ft Fm Fa Fb Fo Fp Fu Fq Ff
 have Ft := Jfg Nt
 have Fm := Jfg Nm
 have Fa := Jfg Na
 have Fb := Jfg Nb
 have Fo := Jfg No
 have Fp := Jfg Np
 have Fu := Jfg Nu
 have Fq := Jfg Nq
 have Ff := Jfg Nf
 have BW := Jfg NB
 clear NB Nt Nm Na Nb No Np Nu Nq Nf
 have Dos : go ≠ W7.heap.size := by have := Fo.out.lt; omega
 generalize hW8 : (W7.alloc (.cells (ncs rest) 24)) = W8 at *
 have Ns : At W8 (W7.heap.size) _ _ := Jb hW8 (At.at_ _ _ _ _ (by simp))
 have Nt := Jb hW8 (Ft.out.alloc _)
 have Nm := Jb hW8 (Fm.out.alloc _)
 have Na := Jb hW8 (Fa.out.alloc _)
 have Nb := Jb hW8 (Fb.out.alloc _)
 have No := Jb hW8 (Fo.out.alloc _)
 have Np := Jb hW8 (Fp.out.alloc _)
 have Nu := Jb hW8 (Fu.out.alloc _)
 have Nq := Jb hW8 (Fq.out.alloc _)
 have Nf := Jb hW8 (Ff.out.alloc _)
 have NB := gr_of hW8 (gr_alloc BW.out _)
 clear hW8 BW Ft Fm Fa Fb Fo Fp Fu Fq Ff
 generalize W7.heap.size = gs at *
 have Ft := Jfg Nt
 have Fm := Jfg Nm
 have Fa := Jfg Na
 have Fb := Jfg Nb
 have Fo := Jfg No
 have Fp := Jfg Np
 have Fu := Jfg Nu
 have Fq := Jfg Nq
 have Ff := Jfg Nf
 have Fs := Jfg Ns
 have BW := Jfg NB
 clear NB Nt Nm Na Nb No Np Nu Nq Nf Ns
 have Lo := Fo.out.lt
 have co0 := Fo.out.c0; have co1 := Fo.out.c1; have co2 := Fo.out.c2; have co3 := Fo.out.c3
 refine bodyPost_ret (v := num rest) (by simp [results, Tryz.results98, go_sem, *]) rfl ⟨rfl, BW.out⟩

theorem red_ex (M T low high : Nat) (hM : M < 2 ^ 256) (hM0 : 0 < M) (hT : T < 2 ^ 256) (hMT : M * T % 2 ^ 256 = 1) (hl : low < 2 ^ 256) (hh : high < M) :
  ∃ rest often off c : Nat, rest < M ∧ often * M = low + 2 ^ 256 * off ∧ high + M * c = rest + off ∧ ∀ (gt gm : Nat) (w : World), At w gt 24 (ncs T) → At w gm 24 (ncs M) →
   Calls Tryz.prog 98 #[num low, num high, .pointer (some ⟨gt, 0, none⟩), .pointer (some ⟨gm, 0, none⟩)] w fun e w' => e = .returned (num rest) ∧ Below w.heap.size w w' := by
 obtain ⟨often, h1, ho, _, e1, c1⟩ := Xc low T hl hT
 obtain ⟨l2, off, hl2, _, e2, c2⟩ := Xc often M ho hM
 obtain ⟨ho2, e3⟩ := red_nat M T low high often h1 off l2 hMT hM0 hl e1 ho e2 hl2
 obtain ⟨rest, c, hr, _, e4, c3⟩ := diff_ex high off M hh ho2 hM
 exact ⟨rest, often, off, c, hr, e3, e4, fun gt gm w at1 at2 => red_walk gt gm M T low high often h1 l2 off rest c1 c2 c3 w at1 at2⟩

theorem into_walk (gm M X r : Nat)
  (c1 : ∀ w, Calls Tryz.prog 61 #[.agg #[.int .u64 0, .int .u64 0, .int .u64 0, .int .u64 0], num X, num M] w fun e w' => e = .returned (.tuple #[num r, .int .i64 0]) ∧ Below w.heap.size w w')
  (w : World) (Pm : At w gm 24 (ncs M)) : Calls Tryz.prog 99 #[num X, .pointer (some ⟨gm, 0, none⟩)] w fun e w' => e = .returned (num r) ∧ Below w.heap.size w w' := by
 have Hc1 := Jfg c1
 clear c1
 have Fm := Jfg Pm
 clear Pm
 have Lm := Fm.out.lt
 have cm0 := Fm.out.c0; have cm1 := Fm.out.c1; have cm2 := Fm.out.c2; have cm3 := Fm.out.c3
 have Lm_1 : gm < w.heap.size + 1 := by omega
 go_enter Tryz.func99, Tryz.ntmps99
 go_wp2_with fail
 clear Lm cm0 cm1 cm2 cm3 Lm_1
 have BW := Jfg (Below.refl w.heap.size w)
 have Eo : w.heap.size ≤ w.heap.size + 1 := by have := BW.out.size; omega
 have Dmo : gm ≠ w.heap.size + 1 := by have := Fm.out.lt; omega
 have Dao : w.heap.size ≠ w.heap.size + 1 := by omega
 generalize hW1 : ((w.alloc (.cells (ncs X) 24)).alloc (.cells #[.int .u64 0, .int .u64 0, .int .u64 0, .int .u64 0] 24)) = W1 at *
 have Na : At W1 (w.heap.size) _ _ := Jb hW1 ((At.at_ _ _ _ _ (by simp)).alloc _)
 have No : At W1 (w.heap.size + 1) _ _ := Jb hW1 (At.at_ _ _ _ _ (by simp))
 have Nm := Jb hW1 ((Fm.out.alloc _).alloc _)
 have NB := gr_of hW1 (gr_alloc (gr_alloc BW.out _) _)
 clear hW1 BW Fm
 generalize w.heap.size + 1 = go at *
 obtain ⟨ga, hg0⟩ : ∃ g, g = w.heap.size := ⟨_, rfl⟩
 rw [← hg0] at Na ⊢
 rw [← hg0] at Dao
 clear hg0
 have Fm := Jfg Nm
 have Fa := Jfg Na
 have Fo := Jfg No
 have BW := Jfg NB
 clear NB Nm Na No
 refine (Hc1.out _).mono ?_
 rintro e v2 ⟨rfl, z2⟩
 have Nm := Jfg (Fm.out.on z2)
 have Na := Jfg (Fa.out.on z2)
 have No := Jfg (Fo.out.on z2)
 have NB := Jfg (bel_tr BW.out z2)
 clear BW z2 Fm Fa Fo
 have Fm := Nm
 have Fa := Na
 have Fo := No
 have BW := NB
 clear NB Nm Na No
 have Lo := Fo.out.lt
 have co0 := Fo.out.c0; have co1 := Fo.out.c1; have co2 := Fo.out.c2; have co3 := Fo.out.c3
 obtain ⟨fo0, fo1, fo2, fo3⟩ := Vb Fo.out
 go_wp2_with fail
 clear Lo co0 co1 co2 co3 fo0 fo1 fo2 fo3
 generalize hW3 : ((((v2.setCell ⟨go, 0, none⟩ (.int .u64 (wd r 0))).setCell ⟨go, 1, none⟩ (.int .u64 (wd r 1))).setCell ⟨go, 2, none⟩ (.int .u64 (wd r 2))).setCell ⟨go, 3, none⟩ (.int .u64 (wd r 3))) = W3 at *
 have Nm := Jb hW3 ((Fm.out).far4 Dmo _ _ _ _)
 have Na := Jb hW3 ((Fa.out).far4 Dao _ _ _ _)
 have No := Jb hW3 ((Fo.out).put4 _ _ _ _)
 have NB := gr_of hW3 (((((BW.out).setCell Eo _).setCell Eo _).setCell Eo _).setCell Eo _)
 clear hW3 BW Fm Fa Fo
 have Fm := Jfg Nm
 have Fa := Jfg Na
 have Fo := Jfg No
 have BW := Jfg NB
 clear NB Nm Na No
 have Dos : go ≠ W3.heap.size := by have := Fo.out.lt; omega
 generalize hW4 : (W3.alloc (.cells (ncs r) 24)) = W4 at *
 have Ns : At W4 (W3.heap.size) _ _ := Jb hW4 (At.at_ _ _ _ _ (by simp))
 have Nm := Jb hW4 (Fm.out.alloc _)
 have Na := Jb hW4 (Fa.out.alloc _)
 have No := Jb hW4 (Fo.out.alloc _)
 have NB := gr_of hW4 (gr_alloc BW.out _)
 clear hW4 BW Fm Fa Fo
 generalize W3.heap.size = gs at *
 have Fm := Jfg Nm
 have Fa := Jfg Na
 have Fo := Jfg No
 have Fs := Jfg Ns
 have BW := Jfg NB
 clear NB Nm Na No Ns
 have Lo := Fo.out.lt
 have co0 := Fo.out.c0; have co1 := Fo.out.c1; have co2 := Fo.out.c2; have co3 := Fo.out.c3
 refine bodyPost_ret (v := num r) (by simp [results, Tryz.results99, go_sem, *]) rfl ⟨rfl, BW.out⟩

theorem back_walk (gt gm gr M T X r : Nat)
  (c1 : ∀ (gt gm : Nat) (w : World), At w gt 24 (ncs T) → At w gm 24 (ncs M) → Calls Tryz.prog 98 #[num X, .agg #[.int .u64 0, .int .u64 0, .int .u64 0, .int .u64 0], .pointer (some ⟨gt, 0, none⟩), .pointer (some ⟨gm, 0, none⟩)] w fun e w' => e = .returned (num r) ∧ Below w.heap.size w w')
  (w : World) (Pt : At w gt 24 (ncs T)) (Pm : At w gm 24 (ncs M)) (Pr : At w gr 81 #[.func (.func 98) #[] #[.pointer (some ⟨gt, 0, none⟩), .pointer (some ⟨gm, 0, none⟩)]]) : Calls Tryz.prog 100 #[num X, .pointer (some ⟨gr, 0, none⟩)] w fun e w' => e = .returned (num r) ∧ Below w.heap.size w w' := by
 have Hc1 := Jfg c1
 clear c1
 have Ft := Jfg Pt
 have Fm := Jfg Pm
 have Fr := Jfg Pr
 clear Pt Pm Pr
 have Lr := Fr.out.lt
 have cr0 : w.cell? ⟨gr, 0, none⟩ = some (.func (.func 98) #[] #[.pointer (some ⟨gt, 0, none⟩), .pointer (some ⟨gm, 0, none⟩)]) := Fr.out.cell 0
 have Lr_1 : gr < w.heap.size + 1 := by omega
 go_enter Tryz.func100, Tryz.ntmps100
 go_wp2_with fail
 clear Lr cr0 Lr_1
 have BW := Jfg (Below.refl w.heap.size w)
 have Eo : w.heap.size ≤ w.heap.size + 1 := by have := BW.out.size; omega
 have Dto : gt ≠ w.heap.size + 1 := by have := Ft.out.lt; omega
 have Dmo : gm ≠ w.heap.size + 1 := by have := Fm.out.lt; omega
 have Dro : gr ≠ w.heap.size + 1 := by have := Fr.out.lt; omega
 have Dao : w.heap.size ≠ w.heap.size + 1 := by omega
 generalize hW1 : ((w.alloc (.cells (ncs X) 24)).alloc (.cells #[.int .u64 0, .int .u64 0, .int .u64 0, .int .u64 0] 24)) = W1 at *
 have Na : At W1 (w.heap.size) _ _ := Jb hW1 ((At.at_ _ _ _ _ (by simp)).alloc _)
 have No : At W1 (w.heap.size + 1) _ _ := Jb hW1 (At.at_ _ _ _ _ (by simp))
 have Nt := Jb hW1 ((Ft.out.alloc _).alloc _)
 have Nm := Jb hW1 ((Fm.out.alloc _).alloc _)
 have Nr := Jb hW1 ((Fr.out.alloc _).alloc _)
 have NB := gr_of hW1 (gr_alloc (gr_alloc BW.out _) _)
 clear hW1 BW Ft Fm Fr
 generalize w.heap.size + 1 = go at *
 obtain ⟨ga, hg0⟩ : ∃ g, g = w.heap.size := ⟨_, rfl⟩
 rw [← hg0] at Na ⊢
 rw [← hg0] at Dao
 clear hg0
 have Ft := Jfg Nt
 have Fm := Jfg Nm
 have Fr := Jfg Nr
 have Fa := Jfg Na
 have Fo := Jfg No
 have BW := Jfg NB
 clear NB Nt Nm Nr Na No
 refine (Hc1.out _ _ _ Ft.out Fm.out).mono ?_
 rintro e v2 ⟨rfl, z2⟩
 have Nt := Jfg (Ft.out.on z2)
 have Nm := Jfg (Fm.out.on z2)
 have Nr := Jfg (Fr.out.on z2)
 have Na := Jfg (Fa.out.on z2)
 have No := Jfg (Fo.out.on z2)
 have NB := Jfg (bel_tr BW.out z2)
 clear BW z2 Ft Fm Fr Fa Fo
 have Ft := Nt
 have Fm := Nm
 have Fr := Nr
 have Fa := Na
 have Fo := No
 have BW := NB
 clear NB Nt Nm Nr Na No
 have Lo := Fo.out.lt
 have co0 := Fo.out.c0; have co1 := Fo.out.c1; have co2 := Fo.out.c2; have co3 := Fo.out.c3
 obtain ⟨fo0, fo1, fo2, fo3⟩ := Vb Fo.out
 go_wp2_with fail
 clear Lo co0 co1 co2 co3 fo0 fo1 fo2 fo3
 generalize hW3 : ((((v2.setCell ⟨go, 0, none⟩ (.int .u64 (wd r 0))).setCell ⟨go, 1, none⟩ (.int .u64 (wd r 1))).setCell ⟨go, 2, none⟩ (.int .u64 (wd r 2))).setCell ⟨go, 3, none⟩ (.int .u64 (wd r 3))) = W3 at *
 have Nt := Jb hW3 ((Ft.out).far4 Dto _ _ _ _)
 have Nm := Jb hW3 ((Fm.out).far4 Dmo _ _ _ _)
 have Nr := Jb hW3 ((Fr.out).far4 Dro _ _ _ _)
 have Na := Jb hW3 ((Fa.out).far4 Dao _ _ _ _)
 have No := Jb hW3 ((Fo.out).put4 _ _ _ _)
 have NB := gr_of hW3 (((((BW.out).setCell Eo _).setCell Eo _).setCell Eo _).setCell Eo _)
 clear hW3 BW Ft Fm Fr Fa Fo
 have Ft := Jfg Nt
 have Fm := Jfg Nm
 have Fr := Jfg Nr
 have Fa := Jfg Na
 have Fo := Jfg No
 have BW := Jfg NB
 clear NB Nt Nm Nr Na No
 have Lo := Fo.out.lt
 have co0 := Fo.out.c0; have co1 := Fo.out.c1; have co2 := Fo.out.c2; have co3 := Fo.out.c3
 refine bodyPost_ret (v := num r) (by simp [results, Tryz.results100, go_sem, *]) rfl ⟨rfl, BW.out⟩

theorem times_walk (gt gm gr M T X Y low high r : Nat)
  (c1 : ∀ w, Calls Tryz.prog 60 #[num X, num Y] w fun e w' => e = .returned (.tuple #[num low, num high]) ∧ Below w.heap.size w w')
  (c2 : ∀ (gt gm : Nat) (w : World), At w gt 24 (ncs T) → At w gm 24 (ncs M) → Calls Tryz.prog 98 #[num low, num high, .pointer (some ⟨gt, 0, none⟩), .pointer (some ⟨gm, 0, none⟩)] w fun e w' => e = .returned (num r) ∧ Below w.heap.size w w')
  (w : World) (Pt : At w gt 24 (ncs T)) (Pm : At w gm 24 (ncs M)) (Pr : At w gr 81 #[.func (.func 98) #[] #[.pointer (some ⟨gt, 0, none⟩), .pointer (some ⟨gm, 0, none⟩)]]) : Calls Tryz.prog 101 #[num X, num Y, .pointer (some ⟨gr, 0, none⟩)] w fun e w' => e = .returned (num r) ∧ Below w.heap.size w w' := by
 have Hc1 := Jfg c1
 have Hc2 := Jfg c2
 clear c1 c2
 have Ft := Jfg Pt
 have Fm := Jfg Pm
 have Fr := Jfg Pr
 clear Pt Pm Pr
 go_enter Tryz.func101, Tryz.ntmps101
 go_wp2_with fail
 have BW := Jfg (Below.refl w.heap.size w)
 have Eo : w.heap.size ≤ w.heap.size + 1 + 1 := by have := BW.out.size; omega
 have Dto : gt ≠ w.heap.size + 1 + 1 := by have := Ft.out.lt; omega
 have Dmo : gm ≠ w.heap.size + 1 + 1 := by have := Fm.out.lt; omega
 have Dro : gr ≠ w.heap.size + 1 + 1 := by have := Fr.out.lt; omega
 have Dao : w.heap.size ≠ w.heap.size + 1 + 1 := by omega
 have Dbo : w.heap.size + 1 ≠ w.heap.size + 1 + 1 := by omega
 generalize hW1 : (((w.alloc (.cells (ncs X) 24)).alloc (.cells (ncs Y) 24)).alloc (.cells #[.int .u64 0, .int .u64 0, .int .u64 0, .int .u64 0] 24)) = W1 at *
 have Na : At W1 (w.heap.size) _ _ := Jb hW1 (((At.at_ _ _ _ _ (by simp)).alloc _).alloc _)
 have Nb : At W1 (w.heap.size + 1) _ _ := Jb hW1 ((At.at_ _ _ _ _ (by simp)).alloc _)
 have No : At W1 (w.heap.size + 1 + 1) _ _ := Jb hW1 (At.at_ _ _ _ _ (by simp))
 have Nt := Jb hW1 (((Ft.out.alloc _).alloc _).alloc _)
 have Nm := Jb hW1 (((Fm.out.alloc _).alloc _).alloc _)
 have Nr := Jb hW1 (((Fr.out.alloc _).alloc _).alloc _)
 have NB := gr_of hW1 (gr_alloc (gr_alloc (gr_alloc BW.out _) _) _)
 clear hW1 BW Ft Fm Fr
 generalize w.heap.size + 1 + 1 = go at *
 generalize w.heap.size + 1 = gb at *
 obtain ⟨ga, hg0⟩ : ∃ g, g = w.heap.size := ⟨_, rfl⟩
 rw [← hg0] at Na ⊢
 rw [← hg0] at Dao
 clear hg0
 have Ft := Jfg Nt
 have Fm := Jfg Nm
 have Fr := Jfg Nr
 have Fa := Jfg Na
 have Fb := Jfg Nb
 have Fo := Jfg No
 have BW := Jfg NB
 clear NB Nt Nm Nr Na Nb No
 try simp only [List.append_eq, List.cons_append, List.nil_append]
 refine wp_region_noPanic ?_
 refine wp_region_held_drew (S := fun w' => At w' gr 81 #[.func (.func 98) #[] #[.pointer (some ⟨gt, 0, none⟩), .pointer (some ⟨gm, 0, none⟩)]]) (by kernel_rfl) (Fr.out.drew) (fun _ => ?_)
 refine Jo (fuel := 1) (⟨0, 6, [], Kind.val (.func (.func 98) #[] #[.pointer (some ⟨gt, 0, none⟩), .pointer (some ⟨gm, 0, none⟩)]), true⟩ :: ⟨1, 7, [], Kind.val (num X), false⟩ :: ⟨2, 8, [], Kind.val (num Y), false⟩ :: ⟨3, 9, [1, 2], Kind.val (.tuple #[num low, num high]), false⟩ :: ⟨4, 10, [3], Kind.val (num low), true⟩ :: ⟨5, 11, [3], Kind.val (num high), true⟩ :: ⟨6, 12, [0, 4, 5, 3], Kind.val (num r), false⟩ :: []) _ _ W1 _ ?_ ?_ ?_ ?_ ?_ ?_ ?_ ?_ ?_ ?_ ?_
 ·rfl
 ·kernel_rfl
 ·exact of_decide_eq_true rfl
 ·(repeat refine all_cons ⟨_, rfl, rfl⟩ ?_); exact Je
 ·exact fun _ hb => Fr.out.on hb
 ·exact (Below.refl _ _).drew
 ·kernel_rfl
 ·exact fun _ _ _ _ _ h => h
 ·(repeat (refine all_cons ?_ ?_; rotate_left)); exact Je
  all_goals try exact Ji _ (by rfl)
  ·exact Ur _ _ _ _ _ _ _ _ (by rfl) (by rfl) (ko 2) (fun ρ w hx hs => loadF_run _ _ _ _ _ _ ρ w gr 0 _ hx (hs.cell 0))
  ·exact Ub _ _ 0 _ _ _ _ _ (by rfl) (by rfl) (kc 3 9) (by rfl)
  ·exact Ub _ _ 1 _ _ _ _ _ (by rfl) (by rfl) (kc 3 9) (by rfl)
 ·(repeat (refine all_cons ?_ ?_; rotate_left)); exact Je
  all_goals try exact sA
  ·exact fun _ => Ku _ _ _ _ _ ga _ _ _ _ (by rfl) (by rfl) (ko 3) Fa.out
  ·exact fun _ => Ku _ _ _ _ _ gb _ _ _ _ (by rfl) (by rfl) (ko 4) Fb.out
  ·exact fun _ => Kr _ 60 _ _ [.tmp 7, .tmp 8] _ _ _ _ _ _ (by rfl) Tryz.func60 (by kernel_rfl) (by rfl) (by rfl) (.cons (kc 1 7) (.cons (kc 2 8) .nil)) (Hc1.out)
  ·exact fun _ => Wt _ 98 _ _ (.tmp 6) #[.pointer (some ⟨gt, 0, none⟩), .pointer (some ⟨gm, 0, none⟩)] [.tmp 10, .tmp 11] _ _ _ _ _ _ _ (by rfl) Tryz.func98 (by kernel_rfl) (by rfl) (by rfl) (kc 0 6) (.cons (kc 4 10) (.cons (kc 5 11) .nil)) (by rfl) (fun w hb => Hc2.out _ _ _ (Ft.out.on hb) (Fm.out.on hb))
 intro vs y2 hc
 obtain ⟨vv0, vv1, vv2, vv3, vv4, vv5, vv6, rfl⟩ := len7 vs hc.lv
 have qq0 := okv hc 0
 have qq1 := okv hc 1
 have qq2 := okv hc 2
 have qq3 := okv hc 3
 have qq4 := okv hc 4
 have qq5 := okv hc 5
 have qq6 := okv hc 6
 have BZ := hc.bel
 clear hc
 have Nt := Ft.out.on BZ
 have Nm := Fm.out.on BZ
 have Nr := Fr.out.on BZ
 have Na := Fa.out.on BZ
 have Nb := Fb.out.on BZ
 have No := Fo.out.on BZ
 have HSZ2 := BW.out.size
 have NB := bel_tr BW.out BZ
 clear BW BZ Ft Fm Fr Fa Fb Fo
 subst qq0 qq1 qq2 qq3 qq4 qq5 qq6
 simp only [List.map_cons, List.map_nil, over, Act.put, List.setIfInBounds_toArray, List.set_cons_zero, List.set_cons_succ]
 have OLD := No
 replace Nt := p4f Nt Dto r
 replace Nm := p4f Nm Dmo r
 replace Nr := p4f Nr Dro r
 replace Na := p4f Na Dao r
 replace Nb := p4f Nb Dbo r
 replace No := p4a No r
 replace NB := p4b NB Eo r
 refine Kt (i := 7) _ _ _ _ _ go _ _ _ _ _ _ _ _ (by kernel_rfl) (by rfl) (by rfl) (by rfl) OLD (Nr) ?_
 clear OLD
 generalize (put4 y2 go (.int .u64 (wd r 0)) (.int .u64 (wd r 1)) (.int .u64 (wd r 2)) (.int .u64 (wd r 3))) = y2_7 at *
 refine wpAnyH_done (by kernel_rfl) ?_ _
 refine NoPanic.normal ?_
 have Ft := Jfg Nt
 have Fm := Jfg Nm
 have Fr := Jfg Nr
 have Fa := Jfg Na
 have Fb := Jfg Nb
 have Fo := Jfg No
 have BW := Jfg NB
 clear NB Nt Nm Nr Na Nb No
 clear HSZ2
 have Lo := Fo.out.lt
 have co0 := Fo.out.c0; have co1 := Fo.out.c1; have co2 := Fo.out.c2; have co3 := Fo.out.c3
 go_wp2_with fail
 refine bodyPost_ret (v := num r) (by simp [results, Tryz.results101, go_sem, *]) rfl ⟨rfl, BW.out⟩

theorem same_any (X : Nat) (w : World) : Calls Tryz.prog 102 #[num X] w fun e w' => e = .returned (num X) ∧ Below w.heap.size w w' := by
 go_enter Tryz.func102, Tryz.ntmps102
 go_wp2_with fail
 refine bodyPost_ret (v := num X) (by simp [results, Tryz.results102, go_sem, *]) rfl ⟨rfl, ?_⟩
 repeat (first | exact Below.refl _ _ | refine gr_alloc ?_ _ | refine Below.setCell ?_ (by simp) _ | refine Below.setCell ?_ (by simp; omega) _)

theorem ptimes_walk (gm M X Y r : Nat)
  (c1 : ∀ w, Calls Tryz.prog 39 #[num X, num Y, num M] w fun e w' => e = .returned (.tuple #[num r, .int .i64 0]) ∧ Below w.heap.size w w')
  (w : World) (Pm : At w gm 24 (ncs M)) : Calls Tryz.prog 103 #[num X, num Y, .pointer (some ⟨gm, 0, none⟩)] w fun e w' => e = .returned (num r) ∧ Below w.heap.size w w' := by
 have Hc1 := Jfg c1
 clear c1
 have Fm := Jfg Pm
 clear Pm
 have Lm := Fm.out.lt
 have cm0 := Fm.out.c0; have cm1 := Fm.out.c1; have cm2 := Fm.out.c2; have cm3 := Fm.out.c3
 have Lm_1 : gm < w.heap.size + 1 := by omega
 have Lm_2 : gm < w.heap.size + 1 + 1 := by omega
 go_enter Tryz.func103, Tryz.ntmps103
 go_wp2_with fail
 clear Lm cm0 cm1 cm2 cm3 Lm_1 Lm_2
 have BW := Jfg (Below.refl w.heap.size w)
 have Eo : w.heap.size ≤ w.heap.size + 1 + 1 := by have := BW.out.size; omega
 have Dmo : gm ≠ w.heap.size + 1 + 1 := by have := Fm.out.lt; omega
 have Dao : w.heap.size ≠ w.heap.size + 1 + 1 := by omega
 have Dbo : w.heap.size + 1 ≠ w.heap.size + 1 + 1 := by omega
 generalize hW1 : (((w.alloc (.cells (ncs X) 24)).alloc (.cells (ncs Y) 24)).alloc (.cells #[.int .u64 0, .int .u64 0, .int .u64 0, .int .u64 0] 24)) = W1 at *
 have Na : At W1 (w.heap.size) _ _ := Jb hW1 (((At.at_ _ _ _ _ (by simp)).alloc _).alloc _)
 have Nb : At W1 (w.heap.size + 1) _ _ := Jb hW1 ((At.at_ _ _ _ _ (by simp)).alloc _)
 have No : At W1 (w.heap.size + 1 + 1) _ _ := Jb hW1 (At.at_ _ _ _ _ (by simp))
 have Nm := Jb hW1 (((Fm.out.alloc _).alloc _).alloc _)
 have NB := gr_of hW1 (gr_alloc (gr_alloc (gr_alloc BW.out _) _) _)
 clear hW1 BW Fm
 generalize w.heap.size + 1 + 1 = go at *
 generalize w.heap.size + 1 = gb at *
 obtain ⟨ga, hg0⟩ : ∃ g, g = w.heap.size := ⟨_, rfl⟩
 rw [← hg0] at Na ⊢
 rw [← hg0] at Dao
 clear hg0
 have Fm := Jfg Nm
 have Fa := Jfg Na
 have Fb := Jfg Nb
 have Fo := Jfg No
 have BW := Jfg NB
 clear NB Nm Na Nb No
 refine (Hc1.out _).mono ?_
 rintro e v2 ⟨rfl, z2⟩
 have Nm := Jfg (Fm.out.on z2)
 have Na := Jfg (Fa.out.on z2)
 have Nb := Jfg (Fb.out.on z2)
 have No := Jfg (Fo.out.on z2)
 have NB := Jfg (bel_tr BW.out z2)
 clear BW z2 Fm Fa Fb Fo
 have Fm := Nm
 have Fa := Na
 have Fb := Nb
 have Fo := No
 have BW := NB
 clear NB Nm Na Nb No
 have Lo := Fo.out.lt
 have co0 := Fo.out.c0; have co1 := Fo.out.c1; have co2 := Fo.out.c2; have co3 := Fo.out.c3
 obtain ⟨fo0, fo1, fo2, fo3⟩ := Vb Fo.out
 go_wp2_with fail
 clear Lo co0 co1 co2 co3 fo0 fo1 fo2 fo3
 generalize hW3 : ((((v2.setCell ⟨go, 0, none⟩ (.int .u64 (wd r 0))).setCell ⟨go, 1, none⟩ (.int .u64 (wd r 1))).setCell ⟨go, 2, none⟩ (.int .u64 (wd r 2))).setCell ⟨go, 3, none⟩ (.int .u64 (wd r 3))) = W3 at *
 have Nm := Jb hW3 ((Fm.out).far4 Dmo _ _ _ _)
 have Na := Jb hW3 ((Fa.out).far4 Dao _ _ _ _)
 have Nb := Jb hW3 ((Fb.out).far4 Dbo _ _ _ _)
 have No := Jb hW3 ((Fo.out).put4 _ _ _ _)
 have NB := gr_of hW3 (((((BW.out).setCell Eo _).setCell Eo _).setCell Eo _).setCell Eo _)
 clear hW3 BW Fm Fa Fb Fo
 have Fm := Jfg Nm
 have Fa := Jfg Na
 have Fb := Jfg Nb
 have Fo := Jfg No
 have BW := Jfg NB
 clear NB Nm Na Nb No
 have Dos : go ≠ W3.heap.size := by have := Fo.out.lt; omega
 generalize hW4 : (W3.alloc (.cells (ncs r) 24)) = W4 at *
 have Ns : At W4 (W3.heap.size) _ _ := Jb hW4 (At.at_ _ _ _ _ (by simp))
 have Nm := Jb hW4 (Fm.out.alloc _)
 have Na := Jb hW4 (Fa.out.alloc _)
 have Nb := Jb hW4 (Fb.out.alloc _)
 have No := Jb hW4 (Fo.out.alloc _)
 have NB := gr_of hW4 (gr_alloc BW.out _)
 clear hW4 BW Fm Fa Fb Fo
 generalize W3.heap.size = gs at *
 have Fm := Jfg Nm
 have Fa := Jfg Na
 have Fb := Jfg Nb
 have Fo := Jfg No
 have Fs := Jfg Ns
 have BW := Jfg NB
 clear NB Nm Na Nb No Ns
 have Lo := Fo.out.lt
 have co0 := Fo.out.c0; have co1 := Fo.out.c1; have co2 := Fo.out.c2; have co3 := Fo.out.c3
 refine bodyPost_ret (v := num r) (by simp [results, Tryz.results103, go_sem, *]) rfl ⟨rfl, BW.out⟩

end Go.Proofs.YtodlpmepoakdlaaGreat
