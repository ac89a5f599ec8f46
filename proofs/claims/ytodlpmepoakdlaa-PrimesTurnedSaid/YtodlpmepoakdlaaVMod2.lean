/-
  mods.inverseOfOdd: Newton's way.
-/
import Derived.Test.YtodlpmepoakdlaaVChain
import Derived.Test.YtodlpmepoakdlaaVLens
import Derived.Test.YtodlpmepoakdlaaVMod1
import Derived.Test.YtodlpmepoakdlaaVModE
import Derived.Test.YtodlpmepoakdlaaVSmall
namespace Go.Proofs.Ytodlpmepoakdlaa
set_option maxRecDepth 100000
open Go.RowKit
set_option linter.unusedSimpArgs false
set_option linter.unusedVariables false
attribute [local go_sem ↓] Go.wp_at_zero Go.wp_at_succ

set_option maxRecDepth 100000 in
set_option maxHeartbeats 8000000 in
theorem invodd_walk (M T : Nat) (hM : M < 2 ^ 256) (ho : M % 2 = 1) (hT : T < 2 ^ 256) (hMT : M * T % 2 ^ 256 = 1) (w : World) : Calls Try.prog 97 #[num M] w fun e w' => e = .returned (num T) ∧ Below w.heap.size w w' := by
  have HB := Lib.hid hM; have HO := Lib.hid ho; have HT := Lib.hid hT; have HMT := Lib.hid hMT
  have CT := of_any 2 (by decide)
  have AT := Lib.hid CT
  clear hM ho hT hMT CT
  go_enter Try.func97, Try.ntmps97
  go_wp2_with fail
  have BW := Lib.hid (Below.refl w.heap.size w)
  generalize hW1 : (((w.alloc (.cells #[.int .u64 (wd M 0 : Nat), .int .u64 (wd M 1 : Nat), .int .u64 (wd M 2 : Nat), .int .u64 (wd M 3 : Nat)] 24)).alloc (.cells #[.int .u64 0, .int .u64 0, .int .u64 0, .int .u64 0] 24)).alloc (.cells #[.int .u64 (wd M 0 : Nat), .int .u64 (wd M 1 : Nat), .int .u64 (wd M 2 : Nat), .int .u64 (wd M 3 : Nat)] 24)) = W1 at *
  have Nm : At W1 (w.heap.size) _ _ := at_of hW1 (((At.at_ _ _ _ _ (by simp)).alloc _).alloc _)
  have No : At W1 (w.heap.size + 1) _ _ := at_of hW1 ((At.at_ _ _ _ _ (by simp)).alloc _)
  have Eo : w.heap.size ≤ w.heap.size + 1 := by have := BW.out.size; omega
  have Dmo : w.heap.size ≠ w.heap.size + 1 := by omega
  have Nx : At W1 (w.heap.size + 1 + 1) _ _ := at_of hW1 (At.at_ _ _ _ _ (by simp))
  have Ex : w.heap.size ≤ w.heap.size + 1 + 1 := by have := BW.out.size; omega
  have Dmx : w.heap.size ≠ w.heap.size + 1 + 1 := by omega
  have Dox : w.heap.size + 1 ≠ w.heap.size + 1 + 1 := by omega
  have NB := gr_of hW1 (gr_alloc (gr_alloc (gr_alloc BW.out _) _) _)
  clear BW
  clear hW1
  generalize w.heap.size + 1 + 1 = gx at *
  generalize w.heap.size + 1 = go at *
  obtain ⟨gm, hg0⟩ : ∃ g, g = w.heap.size := ⟨_, rfl⟩
  rw [← hg0] at Nm ⊢
  rw [← hg0] at Dmo Dmx
  clear hg0
  have Fm := Lib.hid Nm
  have Fo := Lib.hid No
  have Fx := Lib.hid Nx
  have BW := Lib.hid NB
  clear NB Nm No Nx
  go_loopw [4] (fun s wr => ∃ r X : Nat, s = .int .i64 (r : Nat) ∧ 3 ≤ r ∧ r < 512 ∧ Hid (At wr gm 24 #[.int .u64 (wd M 0 : Nat), .int .u64 (wd M 1 : Nat), .int .u64 (wd M 2 : Nat), .int .u64 (wd M 3 : Nat)] ∧ At wr go 24 #[.int .u64 0, .int .u64 0, .int .u64 0, .int .u64 0] ∧ At wr gx 24 #[.int .u64 (wd X 0 : Nat), .int .u64 (wd X 1 : Nat), .int .u64 (wd X 2 : Nat), .int .u64 (wd X 3 : Nat)] ∧ Below w.heap.size w wr ∧ X < 2 ^ 256 ∧ M * X % 2 ^ (min r 256) = 1)) (fun s _ => 512 - (intOf s).toNat)
  case atStart =>
    exact ⟨3, M, rfl, by omega, by omega, Fm.out, Fo.out, Fx.out, BW.out, HB.out, newt_first M HO.out⟩
  case round =>
    obtain ⟨r, X, rfl, h3, h512, hM⟩ := hrel
    clear BW Fm Fo Fx
    have Fm := Lib.hid hM.out.1; have Fo := Lib.hid hM.out.2.1; have Fx := Lib.hid hM.out.2.2.1; have BW := Lib.hid hM.out.2.2.2.1; have HX := Lib.hid hM.out.2.2.2.2.1; have HI := Lib.hid hM.out.2.2.2.2.2
    clear hM
    by_cases hlt : r < 256
    · have hz : (r : Int) < 256 := by omega
      obtain ⟨p, l, hp, hl, e1, C1⟩ := mul_ex M X HB.out HX.out
      obtain ⟨S, c, hS, hc, e2, C2⟩ := sub_ex 2 p (by decide) hp
      obtain ⟨X2, h, hX2, hh, e3, C3⟩ := mul_ex X S HX.out hS
      have HR := Lib.hid (newt_round M X p S X2 l c h r h3 HI.out hlt e1 e2 e3)
      have HX2 := Lib.hid hX2
      have A1 := Lib.hid C1; have A2 := Lib.hid C2; have A3 := Lib.hid C3
      have gw : IntKind.i64.wrap ((r : Int) * 2) = ((r * 2 : Nat) : Int) := by rw [IntKind.wrap_i64]; omega
      clear e1 e2 e3 C1 C2 C3 hX2 hp hl hS hc hh HI HX
      have Lm := Fm.out.lt
      have cm0 := Fm.out.c0
      have cm1 := Fm.out.c1
      have cm2 := Fm.out.c2
      have cm3 := Fm.out.c3
      have Lx := Fx.out.lt
      have cx0 := Fx.out.c0
      have cx1 := Fx.out.c1
      have cx2 := Fx.out.c2
      have cx3 := Fx.out.c3
      go_wp2_with fail
      clear Lm cm0 cm1 cm2 cm3 Lx cx0 cx1 cx2 cx3
      refine (A1.out _).mono ?_
      rintro e v2 ⟨rfl, z2⟩
      have Nm := Lib.hid (Fm.out.on z2)
      have No := Lib.hid (Fo.out.on z2)
      have Nx := Lib.hid (Fx.out.on z2)
      have NB := Lib.hid (bel_tr BW.out z2)
      clear BW z2 Fm Fo Fx
      have Fm := Nm
      have Fo := No
      have Fx := Nx
      have BW := NB
      clear NB Nm No Nx
      go_wp2_with fail
      generalize hW3 : ((v2.alloc (.cells #[.int .u64 (wd p 0 : Nat), .int .u64 (wd p 1 : Nat), .int .u64 (wd p 2 : Nat), .int .u64 (wd p 3 : Nat)] 24)).alloc (.cells #[.int .u64 (wd l 0 : Nat), .int .u64 (wd l 1 : Nat), .int .u64 (wd l 2 : Nat), .int .u64 (wd l 3 : Nat)] 24)) = W3 at *
      have Np : At W3 (v2.heap.size) _ _ := at_of hW3 ((At.at_ _ _ _ _ (by simp)).alloc _)
      have Dop : go ≠ v2.heap.size := by have := Fo.out.lt; omega
      have Dxp : gx ≠ v2.heap.size := by have := Fx.out.lt; omega
      have Nl : At W3 (v2.heap.size + 1) _ _ := at_of hW3 (At.at_ _ _ _ _ (by simp))
      have Dol : go ≠ v2.heap.size + 1 := by have := Fo.out.lt; omega
      have Dxl : gx ≠ v2.heap.size + 1 := by have := Fx.out.lt; omega
      have Nm := at_of hW3 ((Fm.out.alloc _).alloc _)
      have No := at_of hW3 ((Fo.out.alloc _).alloc _)
      have Nx := at_of hW3 ((Fx.out.alloc _).alloc _)
      have NB := gr_of hW3 (gr_alloc (gr_alloc BW.out _) _)
      clear BW Fm Fo Fx
      clear hW3
      generalize v2.heap.size + 1 = gl at *
      generalize v2.heap.size = gp at *
      have Fm := Lib.hid Nm
      have Fo := Lib.hid No
      have Fx := Lib.hid Nx
      have Fp := Lib.hid Np
      have Fl := Lib.hid Nl
      have BW := Lib.hid NB
      clear NB Nm No Nx Np Nl
      try simp only [List.append_eq, List.cons_append, List.nil_append]
      refine wp_region_noPanic ?_
      refine wp_region_held_drew (S := fun w' => True) (by kernel_rfl) (trivial) (fun _ => ?_)
      refine wpAnyH_cores (fuel := 2) (⟨0, 21, [], Kind.val (.agg #[.int .u64 (wd 2 0 : Nat), .int .u64 (wd 2 1 : Nat), .int .u64 (wd 2 2 : Nat), .int .u64 (wd 2 3 : Nat)]), false⟩ :: ⟨1, 22, [], Kind.val (.agg #[.int .u64 (wd p 0 : Nat), .int .u64 (wd p 1 : Nat), .int .u64 (wd p 2 : Nat), .int .u64 (wd p 3 : Nat)]), false⟩ :: ⟨2, 23, [0, 1], Kind.val (.tuple #[.agg #[.int .u64 (wd S 0 : Nat), .int .u64 (wd S 1 : Nat), .int .u64 (wd S 2 : Nat), .int .u64 (wd S 3 : Nat)], .int .u64 (c : Nat)]), false⟩ :: ⟨3, 20, [2], Kind.val (.tuple #[.agg #[.int .u64 (wd S 0 : Nat), .int .u64 (wd S 1 : Nat), .int .u64 (wd S 2 : Nat), .int .u64 (wd S 3 : Nat)], .int .u64 (c : Nat)]), true⟩ :: ⟨4, 24, [3], Kind.val (.agg #[.int .u64 (wd S 0 : Nat), .int .u64 (wd S 1 : Nat), .int .u64 (wd S 2 : Nat), .int .u64 (wd S 3 : Nat)]), true⟩ :: ⟨5, 25, [3], Kind.val (.int .u64 (c : Nat)), true⟩ :: ⟨6, 7, [], Kind.cell W3.heap.size 24 #[.int .u64 0, .int .u64 0, .int .u64 0, .int .u64 0], false⟩ :: []) _ _ W3 _ ?_ ?_ ?_ ?_ ?_ ?_ ?_ ?_ ?_ ?_ ?_
      · rfl
      · kernel_rfl
      · exact of_decide_eq_true rfl
      · exact all_cons ⟨_, rfl, rfl⟩ (all_cons ⟨_, rfl, rfl⟩ (all_cons ⟨_, rfl, rfl⟩ (all_cons ⟨_, rfl, rfl⟩ (all_cons ⟨_, rfl, rfl⟩ (all_cons ⟨_, rfl, rfl⟩ (all_cons ⟨_, rfl, rfl⟩ (all_nil)))))))
      · exact fun _ hb => trivial
      · exact (Below.refl _ _).drew
      · kernel_rfl
      · exact fun _ _ _ _ _ h => h
      · refine all_cons ?_ (all_cons ?_ (all_cons ?_ (all_cons ?_ (all_cons ?_ (all_cons ?_ (all_cons ?_ (all_nil)))))))
        · exact core_pureAs _ (by rfl)
        · exact core_pureAs _ (by rfl)
        · exact core_pureAs _ (by rfl)
        · exact core_move _ _ _ _ _ _ (by rfl) (by rfl) (known_core 2 23 _ _ (of_decide_eq_true (by rfl)) (by rfl) (by rfl) (by rfl))
        · exact core_extract _ _ 0 _ _ _ _ _ (by rfl) (by rfl) (known_core 3 20 _ _ (of_decide_eq_true (by rfl)) (by rfl) (by rfl) (by rfl)) (by rfl)
        · exact core_extract _ _ 1 _ _ _ _ _ (by rfl) (by rfl) (known_core 3 20 _ _ (of_decide_eq_true (by rfl)) (by rfl) (by rfl) (by rfl)) (by rfl)
        · exact core_pureAs _ (by rfl)
      · refine all_cons ?_ (all_cons ?_ (all_cons ?_ (all_cons ?_ (all_cons ?_ (all_cons ?_ (all_cons ?_ (all_nil)))))))
        · exact fun _ => core_call _ 32 _ _ [.const (.int .u64 2)] _ _ _ _ _ _ (by rfl) Try.func32 (by kernel_rfl) (by rfl) (by rfl) (.cons (known_const _) .nil) (AT.out)
        · exact fun _ => core_load _ _ _ _ _ gp _ _ _ _ (by rfl) (by rfl) (known_old 5 _ (of_decide_eq_true (by rfl)) (by rfl)) Fp.out
        · exact fun _ => core_call _ 48 _ _ [.tmp 21, .tmp 22] _ _ _ _ _ _ (by rfl) Try.func48 (by kernel_rfl) (by rfl) (by rfl) (.cons (known_core 0 21 _ _ (of_decide_eq_true (by rfl)) (by rfl) (by rfl) (by rfl)) (.cons (known_core 1 22 _ _ (of_decide_eq_true (by rfl)) (by rfl) (by rfl) (by rfl)) .nil)) (A2.out)
        · exact core_stepAs _ (by rfl)
        · exact core_stepAs _ (by rfl)
        · exact core_stepAs _ (by rfl)
        · exact fun _ => core_alloc _ _ _ _ _ (by rfl) (by rfl) (Nat.le_refl _)
      intro vs y4 hc
      obtain ⟨vv0, vv1, vv2, vv3, vv4, vv5, vv6, rfl⟩ := len7 vs hc.lv
      have qq0 : vv0 = .agg #[.int .u64 (wd 2 0 : Nat), .int .u64 (wd 2 1 : Nat), .int .u64 (wd 2 2 : Nat), .int .u64 (wd 2 3 : Nat)] := by obtain ⟨xx, hx, hy⟩ := hc.ok 0 _ rfl rfl; exact (Option.some.inj (show some vv0 = some xx from hx)).trans hy
      have qq1 : vv1 = .agg #[.int .u64 (wd p 0 : Nat), .int .u64 (wd p 1 : Nat), .int .u64 (wd p 2 : Nat), .int .u64 (wd p 3 : Nat)] := by obtain ⟨xx, hx, hy⟩ := hc.ok 1 _ rfl rfl; exact (Option.some.inj (show some vv1 = some xx from hx)).trans hy
      have qq2 : vv2 = .tuple #[.agg #[.int .u64 (wd S 0 : Nat), .int .u64 (wd S 1 : Nat), .int .u64 (wd S 2 : Nat), .int .u64 (wd S 3 : Nat)], .int .u64 (c : Nat)] := by obtain ⟨xx, hx, hy⟩ := hc.ok 2 _ rfl rfl; exact (Option.some.inj (show some vv2 = some xx from hx)).trans hy
      have qq3 : vv3 = .tuple #[.agg #[.int .u64 (wd S 0 : Nat), .int .u64 (wd S 1 : Nat), .int .u64 (wd S 2 : Nat), .int .u64 (wd S 3 : Nat)], .int .u64 (c : Nat)] := by obtain ⟨xx, hx, hy⟩ := hc.ok 3 _ rfl rfl; exact (Option.some.inj (show some vv3 = some xx from hx)).trans hy
      have qq4 : vv4 = .agg #[.int .u64 (wd S 0 : Nat), .int .u64 (wd S 1 : Nat), .int .u64 (wd S 2 : Nat), .int .u64 (wd S 3 : Nat)] := by obtain ⟨xx, hx, hy⟩ := hc.ok 4 _ rfl rfl; exact (Option.some.inj (show some vv4 = some xx from hx)).trans hy
      have qq5 : vv5 = .int .u64 (c : Nat) := by obtain ⟨xx, hx, hy⟩ := hc.ok 5 _ rfl rfl; exact (Option.some.inj (show some vv5 = some xx from hx)).trans hy
      obtain ⟨xx, hx, gs, hv, Es, As⟩ := hc.ok 6 _ rfl rfl
      have qq6 : vv6 = .pointer (some ⟨gs, 0, none⟩) := (Option.some.inj (show some vv6 = some xx from hx)).trans hv
      clear hx hv
      have BZ := hc.bel
      clear hc
      have Nm := Fm.out.on BZ
      have No := Fo.out.on BZ
      have Nx := Fx.out.on BZ
      have Np := Fp.out.on BZ
      have Nl := Fl.out.on BZ
      have Dms : gm ≠ gs := by have := Fm.out.lt; omega
      have Dos : go ≠ gs := by have := Fo.out.lt; omega
      have Dxs : gx ≠ gs := by have := Fx.out.lt; omega
      have Dps : gp ≠ gs := by have := Fp.out.lt; omega
      have Dls : gl ≠ gs := by have := Fl.out.lt; omega
      have HSZ4 := BW.out.size
      have NB := bel_tr BW.out BZ
      clear BW BZ Fm Fo Fx Fp Fl
      subst qq0 qq1 qq2 qq3 qq4 qq5 qq6
      simp only [List.map_cons, List.map_nil, over, Act.put, List.setIfInBounds_toArray, List.set_cons_zero, List.set_cons_succ]
      have OLD := As
      replace Nm := put4_far Nm Dms (.int .u64 (wd S 0 : Nat)) (.int .u64 (wd S 1 : Nat)) (.int .u64 (wd S 2 : Nat)) (.int .u64 (wd S 3 : Nat))
      replace No := put4_far No Dos (.int .u64 (wd S 0 : Nat)) (.int .u64 (wd S 1 : Nat)) (.int .u64 (wd S 2 : Nat)) (.int .u64 (wd S 3 : Nat))
      replace Nx := put4_far Nx Dxs (.int .u64 (wd S 0 : Nat)) (.int .u64 (wd S 1 : Nat)) (.int .u64 (wd S 2 : Nat)) (.int .u64 (wd S 3 : Nat))
      replace Np := put4_far Np Dps (.int .u64 (wd S 0 : Nat)) (.int .u64 (wd S 1 : Nat)) (.int .u64 (wd S 2 : Nat)) (.int .u64 (wd S 3 : Nat))
      replace Nl := put4_far Nl Dls (.int .u64 (wd S 0 : Nat)) (.int .u64 (wd S 1 : Nat)) (.int .u64 (wd S 2 : Nat)) (.int .u64 (wd S 3 : Nat))
      replace As := put4_at As (.int .u64 (wd S 0 : Nat)) (.int .u64 (wd S 1 : Nat)) (.int .u64 (wd S 2 : Nat)) (.int .u64 (wd S 3 : Nat))
      replace NB := put4_below NB (Nat.le_trans HSZ4 Es) (.int .u64 (wd S 0 : Nat)) (.int .u64 (wd S 1 : Nat)) (.int .u64 (wd S 2 : Nat)) (.int .u64 (wd S 3 : Nat))
      refine store_one (i := 7) _ _ _ _ _ gs _ _ _ _ _ _ _ _ (by kernel_rfl) (by rfl) (by rfl) (by rfl) OLD (trivial) ?_
      clear OLD
      generalize (put4 y4 gs (.int .u64 (wd S 0 : Nat)) (.int .u64 (wd S 1 : Nat)) (.int .u64 (wd S 2 : Nat)) (.int .u64 (wd S 3 : Nat))) = y4_7 at *
      refine assign_one (i := 8) _ 8 _ _ _ _ (by kernel_rfl) (by rfl) (by rfl) (trivial) ?_
      try simp only [Act.put, List.setIfInBounds_toArray, List.set_cons_zero, List.set_cons_succ]
      refine wpAnyH_done (by kernel_rfl) ?_ _
      refine NoPanic.normal ?_
      have Fm := Lib.hid Nm
      have Fo := Lib.hid No
      have Fx := Lib.hid Nx
      have Fp := Lib.hid Np
      have Fl := Lib.hid Nl
      have Fs := Lib.hid As
      have BW := Lib.hid NB
      clear NB Nm No Nx Np Nl As
      clear Es
      clear HSZ4
      have Lx := Fx.out.lt
      have cx0 := Fx.out.c0
      have cx1 := Fx.out.c1
      have cx2 := Fx.out.c2
      have cx3 := Fx.out.c3
      have Ls := Fs.out.lt
      have cs0 := Fs.out.c0
      have cs1 := Fs.out.c1
      have cs2 := Fs.out.c2
      have cs3 := Fs.out.c3
      go_wp2_with fail
      clear Lx cx0 cx1 cx2 cx3 Ls cs0 cs1 cs2 cs3
      refine (A3.out _).mono ?_
      rintro e v5 ⟨rfl, z5⟩
      have Nm := Lib.hid (Fm.out.on z5)
      have No := Lib.hid (Fo.out.on z5)
      have Nx := Lib.hid (Fx.out.on z5)
      have Np := Lib.hid (Fp.out.on z5)
      have Nl := Lib.hid (Fl.out.on z5)
      have Ns := Lib.hid (Fs.out.on z5)
      have NB := Lib.hid (bel_tr BW.out z5)
      clear BW z5 Fm Fo Fx Fp Fl Fs
      have Fm := Nm
      have Fo := No
      have Fx := Nx
      have Fp := Np
      have Fl := Nl
      have Fs := Ns
      have BW := NB
      clear NB Nm No Nx Np Nl Ns
      clear Fp
      clear Fl
      clear Fs
      have Lx := Fx.out.lt
      have cx0 := Fx.out.c0
      have cx1 := Fx.out.c1
      have cx2 := Fx.out.c2
      have cx3 := Fx.out.c3
      have fx0 : v5.frozen? ⟨gx, 0, none⟩ = false := Fx.out.frozen 0
      have fx1 : v5.frozen? ⟨gx, 1, none⟩ = false := Fx.out.frozen 1
      have fx2 : v5.frozen? ⟨gx, 2, none⟩ = false := Fx.out.frozen 2
      have fx3 : v5.frozen? ⟨gx, 3, none⟩ = false := Fx.out.frozen 3
      go_wp2_with fail
      generalize hW6 : ((((v5.setCell ⟨gx, 0, none⟩ (.int .u64 (wd X2 0 : Nat))).setCell ⟨gx, 1, none⟩ (.int .u64 (wd X2 1 : Nat))).setCell ⟨gx, 2, none⟩ (.int .u64 (wd X2 2 : Nat))).setCell ⟨gx, 3, none⟩ (.int .u64 (wd X2 3 : Nat))) = W6 at *
      clear Lx cx0 cx1 cx2 cx3 fx0 fx1 fx2 fx3
      have Nm_0 := at_of hW6 ((Fm.out).far4 Dmx _ _ _ _)
      have No_0 := at_of hW6 ((Fo.out).far4 Dox _ _ _ _)
      have Nx_0 := at_of hW6 ((Fx.out).put4 _ _ _ _)
      have NB_0 := gr_of hW6 (((((BW.out).setCell Ex _).setCell Ex _).setCell Ex _).setCell Ex _)
      have Nm := Nm_0
      have No := No_0
      have Nx := Nx_0
      have NB := NB_0
      clear BW Fm Fo Fx Nm_0 No_0 Nx_0 NB_0
      clear hW6
      have Fm := Lib.hid Nm
      have Fo := Lib.hid No
      have Fx := Lib.hid Nx
      have BW := Lib.hid NB
      clear NB Nm No Nx
      go_roundw
      case rel =>
        first
          | exact ⟨r * 2, X2, rfl, by omega, by omega, Fm.out, Fo.out, Fx.out, BW.out, HX2.out, HR.out⟩
          | exact ⟨r * 2, X2, by go_num, by omega, by omega, Fm.out, Fo.out, Fx.out, BW.out, HX2.out, HR.out⟩
          | ((repeat apply Exists.intro); exact ⟨⟨r * 2, X2, by go_num, by omega, by omega, Fm.out, Fo.out, Fx.out, BW.out, HX2.out, HR.out⟩, rfl⟩)
      case measure => (simp [intOf] <;> omega)
    · have hz : ¬ (r : Int) < 256 := by omega
      have hx : X = T := by
        have hi := HI.out
        rw [show min r 256 = 256 by omega] at hi
        exact inv_one M X T _ HX.out HT.out hi HMT.out
      subst hx
      have Lx := Fx.out.lt
      have cx0 := Fx.out.c0
      have cx1 := Fx.out.c1
      have cx2 := Fx.out.c2
      have cx3 := Fx.out.c3
      have Lo := Fo.out.lt
      have co0 : wr.cell? ⟨go, 0, none⟩ = some (.int .u64 0) := Fo.out.cell 0
      have co1 : wr.cell? ⟨go, 1, none⟩ = some (.int .u64 0) := Fo.out.cell 1
      have co2 : wr.cell? ⟨go, 2, none⟩ = some (.int .u64 0) := Fo.out.cell 2
      have co3 : wr.cell? ⟨go, 3, none⟩ = some (.int .u64 0) := Fo.out.cell 3
      have fo0 : wr.frozen? ⟨go, 0, none⟩ = false := Fo.out.frozen 0
      have fo1 : wr.frozen? ⟨go, 1, none⟩ = false := Fo.out.frozen 1
      have fo2 : wr.frozen? ⟨go, 2, none⟩ = false := Fo.out.frozen 2
      have fo3 : wr.frozen? ⟨go, 3, none⟩ = false := Fo.out.frozen 3
      go_wp2_with fail
      generalize hW2 : ((((wr.setCell ⟨go, 0, none⟩ (.int .u64 (wd X 0 : Nat))).setCell ⟨go, 1, none⟩ (.int .u64 (wd X 1 : Nat))).setCell ⟨go, 2, none⟩ (.int .u64 (wd X 2 : Nat))).setCell ⟨go, 3, none⟩ (.int .u64 (wd X 3 : Nat))) = W2 at *
      clear Lx cx0 cx1 cx2 cx3 Lo co0 co1 co2 co3 fo0 fo1 fo2 fo3
      have Nm_0 := at_of hW2 ((Fm.out).far4 Dmo _ _ _ _)
      have No_0 := at_of hW2 ((Fo.out).put4 _ _ _ _)
      have Nx_0 := at_of hW2 ((Fx.out).far4 Dox.symm _ _ _ _)
      have NB_0 := gr_of hW2 (((((BW.out).setCell Eo _).setCell Eo _).setCell Eo _).setCell Eo _)
      have Nm := Nm_0
      have No := No_0
      have Nx := Nx_0
      have NB := NB_0
      clear BW Fm Fo Fx Nm_0 No_0 Nx_0 NB_0
      clear hW2
      have Fm := Lib.hid Nm
      have Fo := Lib.hid No
      have Fx := Lib.hid Nx
      have BW := Lib.hid NB
      clear NB Nm No Nx
      have Lo := Fo.out.lt
      have co0 := Fo.out.c0
      have co1 := Fo.out.c1
      have co2 := Fo.out.c2
      have co3 := Fo.out.c3
      exact bodyPost_ret (v := num X) (by simp [results, Try.results97, go_sem, *]) rfl ⟨rfl, BW.out⟩

theorem invodd_ex (M : Nat) (hM : M < 2 ^ 256) (ho : M % 2 = 1) : ∃ T, T < 2 ^ 256 ∧ M * T % 2 ^ 256 = 1 ∧ ∀ w, Calls Try.prog 97 #[num M] w fun e w' => e = .returned (num T) ∧ Below w.heap.size w w' := by
  obtain ⟨T, hT, h⟩ := inv_exists M hM ho
  exact ⟨T, hT, h, fun w => invodd_walk M T hM ho hT h w⟩
end Go.Proofs.Ytodlpmepoakdlaa
