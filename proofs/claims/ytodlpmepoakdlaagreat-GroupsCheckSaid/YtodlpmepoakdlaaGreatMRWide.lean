import Derived.Test.YtodlpmepoakdlaaGreatMCoreH
import Derived.Test.YtodlpmepoakdlaaGreatMRWord
import Derived.Test.YtodlpmepoakdlaaGreatMRbits
import Derived.Test.YtodlpmepoakdlaaGreatMSmall
import Derived.Test.YtodlpmepoakdlaaGreatMWide
namespace Go.Proofs.YtodlpmepoakdlaaGreat
set_option maxRecDepth 100000
set_option maxHeartbeats 8000000
open Go.RowKit
set_option linter.unusedSimpArgs false
set_option linter.unusedVariables false
attribute [local go_sem ↓] Go.wp_at_zero Go.wp_at_succ

theorem bit_down (X M i : Nat) (hM : 0 < M) : (2 * (X / 2 ^ (i + 1) % M) + X / 2 ^ i % 2) % M = X / 2 ^ i % M := by
 rw [show X / 2 ^ i = 2 * (X / 2 ^ (i + 1)) + X / 2 ^ i % 2 from Vv X i]
 have e : (2 * (X / 2 ^ (i + 1)) + X / 2 ^ i % 2) % 2 = X / 2 ^ i % 2 := by omega
 rw [e]
 conv => rhs; rw [Nat.add_mod, Nat.mul_mod]
 conv => lhs; rw [Nat.add_mod, Nat.mul_mod, Nat.mod_mod]
theorem rwide_long (A R M : Nat) (hA : A < 2 ^ 256) (hR : R < 2 ^ 256) (hM : M < 2 ^ 256) (hM0 : 0 < M)
  (EQ : ∀ w, (Op.equalIn 10000 24 (num M) (.agg #[.int .u64 0, .int .u64 0, .int .u64 0, .int .u64 0])).run Tryz.prog w = .ok false w)
  (CW : ∀ w, Calls Tryz.prog 44 #[num M] w fun e w' => e = .returned (.bool false) ∧ Below w.heap.size w w') (w : World) :
  Calls Tryz.prog 65 #[num A, num R, num M] w fun e w' => e = .returned (.tuple #[num (wide R A % M), .int .i64 0]) ∧ Below w.heap.size w w' := by
 obtain ⟨V, hV⟩ : ∃ V, V = wide R A % M := ⟨_, rfl⟩
 rw [← hV]
 have HV := Jfg hV; have HCW := Jfg CW
 have HA := Jfg hA; have HR := Jfg hR; have HM := Jfg hM; have HM0 := Jfg hM0
 clear hV CW hA hR hM hM0
 go_enter Tryz.func65, Tryz.ntmps65
 go_wp2_with (simp only [EQ])
 clear EQ
 have BW := Jfg (Below.refl w.heap.size w)
 generalize hW1 : ((((w.alloc (.cells (ncs A) 24)).alloc (.cells (ncs R) 24)).alloc (.cells (ncs M) 24)).alloc (.cells #[.int .u64 0, .int .u64 0, .int .u64 0, .int .u64 0] 24)) = W1 at *
 have Na : At W1 (w.heap.size) _ _ := Jb hW1 ((((At.at_ _ _ _ _ (by simp)).alloc _).alloc _).alloc _)
 have Nh : At W1 (w.heap.size + 1) _ _ := Jb hW1 (((At.at_ _ _ _ _ (by simp)).alloc _).alloc _)
 have Nm : At W1 (w.heap.size + 1 + 1) _ _ := Jb hW1 ((At.at_ _ _ _ _ (by simp)).alloc _)
 have No : At W1 (w.heap.size + 1 + 1 + 1) _ _ := Jb hW1 (At.at_ _ _ _ _ (by simp))
 have Eo : w.heap.size ≤ w.heap.size + 1 + 1 + 1 := by have := BW.out.size; omega
 have Dao : w.heap.size ≠ w.heap.size + 1 + 1 + 1 := by omega
 have Dho : w.heap.size + 1 ≠ w.heap.size + 1 + 1 + 1 := by omega
 have Dmo : w.heap.size + 1 + 1 ≠ w.heap.size + 1 + 1 + 1 := by omega
 have NB := gr_of hW1 (gr_alloc (gr_alloc (gr_alloc (gr_alloc BW.out _) _) _) _)
 clear BW
 clear hW1
 generalize w.heap.size + 1 + 1 + 1 = go at *
 generalize w.heap.size + 1 + 1 = gm at *
 generalize w.heap.size + 1 = gh at *
 obtain ⟨ga, hg0⟩ : ∃ g, g = w.heap.size := ⟨_, rfl⟩
 rw [← hg0] at Na ⊢
 rw [← hg0] at Dao
 clear hg0
 have Fa := Jfg Na
 have Fh := Jfg Nh
 have Fm := Jfg Nm
 have Fo := Jfg No
 have BW := Jfg NB
 clear NB Na Nh Nm No
 refine (HCW.out _).mono ?_
 rintro e v2 ⟨rfl, z2⟩
 have Na := Jfg (Fa.out.on z2)
 have Nh := Jfg (Fh.out.on z2)
 have Nm := Jfg (Fm.out.on z2)
 have No := Jfg (Fo.out.on z2)
 have NB := Jfg (bel_tr BW.out z2)
 clear BW z2 Fa Fh Fm Fo
 have Fa := Na
 have Fh := Nh
 have Fm := Nm
 have Fo := No
 have BW := NB
 clear NB Na Nh Nm No
 go_wp2_with fail
 generalize hW3 : (v2.alloc (.cells #[.int .u64 0, .int .u64 0, .int .u64 0, .int .u64 0] 24)) = W3 at *
 have Nr : At W3 (v2.heap.size) _ _ := Jb hW3 (At.at_ _ _ _ _ (by simp))
 have Er : w.heap.size ≤ v2.heap.size := by have := BW.out.size; omega
 have Dar : ga ≠ v2.heap.size := by have := Fa.out.lt; omega
 have Dhr : gh ≠ v2.heap.size := by have := Fh.out.lt; omega
 have Dmr : gm ≠ v2.heap.size := by have := Fm.out.lt; omega
 have Dor : go ≠ v2.heap.size := by have := Fo.out.lt; omega
 have Na := Jb hW3 (Fa.out.alloc _)
 have Nh := Jb hW3 (Fh.out.alloc _)
 have Nm := Jb hW3 (Fm.out.alloc _)
 have No := Jb hW3 (Fo.out.alloc _)
 have NB := gr_of hW3 (gr_alloc BW.out _)
 clear BW Fa Fh Fm Fo
 clear hW3
 generalize v2.heap.size = gr at *
 have Fa := Jfg Na
 have Fh := Jfg Nh
 have Fm := Jfg Nm
 have Fo := Jfg No
 have Fr := Jfg Nr
 have BW := Jfg NB
 clear NB Na Nh Nm No Nr
 go_loopw [12] (fun s wr => ∃ i : Nat, i ≤ 256 ∧ s = .int .i64 ((i : Int) - 1) ∧ Hid (At wr ga 24 (ncs A) ∧ At wr gh 24 (ncs R) ∧ At wr gm 24 (ncs M) ∧ At wr go 24 #[.int .u64 0, .int .u64 0, .int .u64 0, .int .u64 0] ∧ At wr gr 24 (ncs (R / 2 ^ i % M)) ∧ Below w.heap.size w wr)) (fun s _ => (intOf s + 1).toNat)
 case atStart =>
  refine ⟨256, by omega, rfl, Fa.out, Fh.out, Fm.out, Fo.out, ?_, BW.out⟩
  have e : R / 2 ^ 256 % M = 0 := by rw [Nat.div_eq_of_lt HR.out, Nat.zero_mod]
  have e2 : ∀ k, wd (R / 2 ^ 256 % M) k = 0 := fun k => by rw [e]; simp [wd]
  (try unfold ncs); rw [e2, e2, e2, e2]; exact Fr.out
 case round =>
  obtain ⟨i, hi, rfl, hM⟩ := hrel
  clear BW Fa Fh Fm Fo Fr
  have Fa := Jfg hM.out.1
  have Fh := Jfg hM.out.2.1
  have Fm := Jfg hM.out.2.2.1
  have Fo := Jfg hM.out.2.2.2.1
  have Fr := Jfg hM.out.2.2.2.2.1
  have BW := Jfg hM.out.2.2.2.2.2
  clear hM
  by_cases h0 : i = 0
  ·subst h0
   have Nr := Fr.out
   rw [Nat.pow_zero, Nat.div_one] at Nr
   clear Fr
   have Fr := Jfg Nr
   clear Nr
   go_wp2_with fail
   go_loopw [13] (fun s wr => ∃ i : Nat, i ≤ 256 ∧ s = .int .i64 ((i : Int) - 1) ∧ Hid (At wr ga 24 (ncs A) ∧ At wr gh 24 (ncs R) ∧ At wr gm 24 (ncs M) ∧ At wr go 24 #[.int .u64 0, .int .u64 0, .int .u64 0, .int .u64 0] ∧ At wr gr 24 (ncs (wide R A / 2 ^ i % M)) ∧ Below w.heap.size w wr)) (fun s _ => (intOf s + 1).toNat)
   case atStart =>
    refine ⟨256, by omega, rfl, Fa.out, Fh.out, Fm.out, Fo.out, ?_, BW.out⟩
    have e : wide R A / 2 ^ 256 % M = R % M := by rw [Jbi R A 256 (Nat.le_refl _), Nat.div_eq_of_lt HA.out]; simp
    rw [e]; exact Fr.out
   case round =>
    obtain ⟨i, hi, rfl, hM⟩ := hrel
    clear BW Fa Fh Fm Fo Fr
    have Fa := Jfg hM.out.1
    have Fh := Jfg hM.out.2.1
    have Fm := Jfg hM.out.2.2.1
    have Fo := Jfg hM.out.2.2.2.1
    have Fr := Jfg hM.out.2.2.2.2.1
    have BW := Jfg hM.out.2.2.2.2.2
    clear hM
    by_cases h0 : i = 0
    ·subst h0
     have Nr := Fr.out
     rw [Nat.pow_zero, Nat.div_one, ← HV.out] at Nr
     clear Fr
     have Fr := Jfg Nr
     clear Nr
     have Lr := Fr.out.lt
     obtain ⟨cr0, cr1, cr2, cr3⟩ := Ka Fr.out
     have Lo := Fo.out.lt
     have co0 : wr.cell? ⟨go, 0, none⟩ = some (.int .u64 0) := Fo.out.cell 0
     have co1 : wr.cell? ⟨go, 1, none⟩ = some (.int .u64 0) := Fo.out.cell 1
     have co2 : wr.cell? ⟨go, 2, none⟩ = some (.int .u64 0) := Fo.out.cell 2
     have co3 : wr.cell? ⟨go, 3, none⟩ = some (.int .u64 0) := Fo.out.cell 3
     obtain ⟨fo0, fo1, fo2, fo3⟩ := Vb Fo.out
     go_wp2_with fail
     generalize hW4 : ((((wr.setCell ⟨go, 0, none⟩ (.int .u64 (wd V 0))).setCell ⟨go, 1, none⟩ (.int .u64 (wd V 1))).setCell ⟨go, 2, none⟩ (.int .u64 (wd V 2))).setCell ⟨go, 3, none⟩ (.int .u64 (wd V 3))) = W4 at *
     clear Lr cr0 cr1 cr2 cr3 Lo co0 co1 co2 co3 fo0 fo1 fo2 fo3
     have Na_0 := Jb hW4 ((Fa.out).far4 Dao _ _ _ _)
     have Nh_0 := Jb hW4 ((Fh.out).far4 Dho _ _ _ _)
     have Nm_0 := Jb hW4 ((Fm.out).far4 Dmo _ _ _ _)
     have No_0 := Jb hW4 ((Fo.out).put4 _ _ _ _)
     have Nr_0 := Jb hW4 ((Fr.out).far4 Dor.symm _ _ _ _)
     have NB_0 := gr_of hW4 (((((BW.out).setCell Eo _).setCell Eo _).setCell Eo _).setCell Eo _)
     have Na := Na_0
     have Nh := Nh_0
     have Nm := Nm_0
     have No := No_0
     have Nr := Nr_0
     have NB := NB_0
     clear BW Fa Fh Fm Fo Fr Na_0 Nh_0 Nm_0 No_0 Nr_0 NB_0
     clear hW4
     have Fa := Jfg Na
     have Fh := Jfg Nh
     have Fm := Jfg Nm
     have Fo := Jfg No
     have Fr := Jfg Nr
     have BW := Jfg NB
     clear NB Na Nh Nm No Nr
     have Lo := Fo.out.lt
     obtain ⟨co0, co1, co2, co3⟩ := Ka Fo.out
     exact bodyPost_ret (v := .tuple #[num V, .int .i64 0]) (by simp [results, Tryz.results65, go_sem, *]) rfl ⟨rfl, BW.out⟩
    ·obtain ⟨j, rfl⟩ : ∃ j, i = j + 1 := ⟨i - 1, by omega⟩
     have e1 : (((j + 1 : Nat) : Int) - 1) = (j : Nat) := by omega
     rw [e1]
     clear e1 h0
     have hb : (wide R A) / 2 ^ j % 2 ≤ 1 := by omega
     have hbt : bt A (j : Int) = (wide R A) / 2 ^ j % 2 := (wide_bit R A j (by omega)).symm
     have CB := Jam A HA.out (j : Int)
     rw [hbt] at CB
     have hlt := Nat.mod_lt ((wide R A) / 2 ^ (j + 1)) HM0.out
     have hdn := bit_down (wide R A) M j HM0.out
     have CT := rtwice_any ((wide R A) / 2 ^ (j + 1) % M) M ((wide R A) / 2 ^ j % 2) ((2 * ((wide R A) / 2 ^ (j + 1) % M) + (wide R A) / 2 ^ j % 2) / M) ((wide R A) / 2 ^ j % M) hlt HM.out hb (by rw [Nat.div_le_iff_le_mul_add_pred HM0.out]; omega) (Nat.mod_lt _ HM0.out) (by rw [← hdn, Nat.mul_comm _ M]; exact (Nat.div_add_mod _ _).symm)
     obtain ⟨z, hz⟩ : ∃ z, (wide R A) / 2 ^ j % 2 = z := ⟨_, rfl⟩
     obtain ⟨y, hy⟩ : ∃ y, (wide R A) / 2 ^ j % M = y := ⟨_, rfl⟩
     obtain ⟨x, hx⟩ : ∃ x, (wide R A) / 2 ^ (j + 1) % M = x := ⟨_, rfl⟩
     rw [hz] at CB CT; rw [hy, hx] at CT
     have HB := Jfg CB; have HT := Jfg CT; have HY := Jfg hy
     have Nr := Fr.out
     rw [hx] at Nr
     clear Fr CB CT hlt hdn hb hbt hz hy hx
     have Fr := Jfg Nr
     clear Nr
     have j0 : (0 : Int) ≤ (j : Int) := by omega
     go_wp2_with fail
     try simp only [List.append_eq, List.cons_append, List.nil_append]
     refine wp_region_noPanic ?_
     refine wp_region_held_drew (S := fun w' => True) (by kernel_rfl) (trivial) (fun _ => ?_)
     refine Jo (fuel := 1) (⟨0, 58, [], Kind.val (num x), false⟩ :: ⟨1, 59, [], Kind.val (num A), false⟩ :: ⟨2, 60, [], Kind.val (.int .i64 (j : Nat)), true⟩ :: ⟨3, 61, [1, 2], Kind.val (.int .u64 (z : Nat)), false⟩ :: ⟨4, 62, [], Kind.val (num M), false⟩ :: ⟨5, 63, [0, 3, 4], Kind.val (num y), false⟩ :: []) _ _ wr _ ?_ ?_ ?_ ?_ ?_ ?_ ?_ ?_ ?_ ?_ ?_
     ·rfl
     ·kernel_rfl
     ·exact of_decide_eq_true rfl
     ·(repeat refine all_cons ⟨_, rfl, rfl⟩ ?_); exact Je
     ·exact fun _ hb => trivial
     ·exact (Below.refl _ _).drew
     ·kernel_rfl
     ·exact fun _ _ _ _ _ h => h
     ·(repeat (refine all_cons ?_ ?_; rotate_left)); exact Je
      all_goals try exact Ji _ (by rfl)
      ·exact Vj _ _ _ _ _ _ (by rfl) (by rfl) (ko 13)
     ·(repeat (refine all_cons ?_ ?_; rotate_left)); exact Je
      ·exact fun _ => Ku _ _ _ _ _ gr _ _ _ _ (by rfl) (by rfl) (ko 11) Fr.out
      ·exact fun _ => Ku _ _ _ _ _ ga _ _ _ _ (by rfl) (by rfl) (ko 3) Fa.out
      ·exact sA
      ·exact fun _ => Kr _ 48 _ _ [.tmp 59, .tmp 60] _ _ _ _ _ _ (by rfl) Tryz.func48 (by kernel_rfl) (by rfl) (by rfl) (.cons (kc 1 59) (.cons (kc 2 60) .nil)) (HB.out)
      ·exact fun _ => Ku _ _ _ _ _ gm _ _ _ _ (by rfl) (by rfl) (ko 5) Fm.out
      ·exact fun _ => Kr _ 80 _ _ [.tmp 58, .tmp 61, .tmp 62] _ _ _ _ _ _ (by rfl) Tryz.func80 (by kernel_rfl) (by rfl) (by rfl) (.cons (kc 0 58) (.cons (kc 3 61) (.cons (kc 4 62) .nil))) (HT.out)
     intro vs y4 hc
     obtain ⟨vv0, vv1, vv2, vv3, vv4, vv5, rfl⟩ := Jfa vs hc.lv
     have qq0 := okv hc 0
     have qq1 := okv hc 1
     have qq2 := okv hc 2
     have qq3 := okv hc 3
     have qq4 := okv hc 4
     have qq5 := okv hc 5
     have BZ := hc.bel
     clear hc
     have Na := Fa.out.on BZ
     have Nh := Fh.out.on BZ
     have Nm := Fm.out.on BZ
     have No := Fo.out.on BZ
     have Nr := Fr.out.on BZ
     have HSZ4 := BW.out.size
     have NB := bel_tr BW.out BZ
     clear BW BZ Fa Fh Fm Fo Fr
     subst qq0 qq1 qq2 qq3 qq4 qq5
     simp only [List.map_cons, List.map_nil, over, Act.put, List.setIfInBounds_toArray, List.set_cons_zero, List.set_cons_succ]
     have OLD := Nr
     replace Na := p4f Na Dar y
     replace Nh := p4f Nh Dhr y
     replace Nm := p4f Nm Dmr y
     replace No := p4f No Dor y
     replace Nr := p4a Nr y
     replace NB := p4b NB Er y
     refine Kt (i := 6) _ _ _ _ _ gr _ _ _ _ _ _ _ _ (by kernel_rfl) (by rfl) (by rfl) (by rfl) OLD (trivial) ?_
     clear OLD
     generalize (put4 y4 gr (.int .u64 (wd y 0)) (.int .u64 (wd y 1)) (.int .u64 (wd y 2)) (.int .u64 (wd y 3))) = y4_6 at *
     refine wpAnyH_done (by kernel_rfl) ?_ _
     refine NoPanic.normal ?_
     have Fa := Jfg Na
     have Fh := Jfg Nh
     have Fm := Jfg Nm
     have Fo := Jfg No
     have Fr := Jfg Nr
     have BW := Jfg NB
     clear NB Na Nh Nm No Nr
     clear HSZ4
     go_wp2_with fail
     go_roundw
     case rel =>
      have Nr := Fr.out
      rw [← HY.out] at Nr
      first
       | exact ⟨j, by omega, by go_num, Fa.out, Fh.out, Fm.out, Fo.out, Nr, BW.out⟩
       | ((repeat apply Exists.intro); exact ⟨⟨j, by omega, by go_num, Fa.out, Fh.out, Fm.out, Fo.out, Nr, BW.out⟩, rfl⟩)
     case measure => (simp [intOf] <;> omega)
  ·obtain ⟨j, rfl⟩ : ∃ j, i = j + 1 := ⟨i - 1, by omega⟩
   have e1 : (((j + 1 : Nat) : Int) - 1) = (j : Nat) := by omega
   rw [e1]
   clear e1 h0
   have hb : R / 2 ^ j % 2 ≤ 1 := by omega
   have hbt : bt R (j : Int) = R / 2 ^ j % 2 := by unfold bt; rw [if_neg (by omega), Int.toNat_natCast]
   have CB := Jam R HR.out (j : Int)
   rw [hbt] at CB
   have hlt := Nat.mod_lt (R / 2 ^ (j + 1)) HM0.out
   have hdn := bit_down R M j HM0.out
   have CT := rtwice_any (R / 2 ^ (j + 1) % M) M (R / 2 ^ j % 2) ((2 * (R / 2 ^ (j + 1) % M) + R / 2 ^ j % 2) / M) (R / 2 ^ j % M) hlt HM.out hb (by rw [Nat.div_le_iff_le_mul_add_pred HM0.out]; omega) (Nat.mod_lt _ HM0.out) (by rw [← hdn, Nat.mul_comm _ M]; exact (Nat.div_add_mod _ _).symm)
   obtain ⟨z, hz⟩ : ∃ z, R / 2 ^ j % 2 = z := ⟨_, rfl⟩
   obtain ⟨y, hy⟩ : ∃ y, R / 2 ^ j % M = y := ⟨_, rfl⟩
   obtain ⟨x, hx⟩ : ∃ x, R / 2 ^ (j + 1) % M = x := ⟨_, rfl⟩
   rw [hz] at CB CT; rw [hy, hx] at CT
   have HB := Jfg CB; have HT := Jfg CT; have HY := Jfg hy
   have Nr := Fr.out
   rw [hx] at Nr
   clear Fr CB CT hlt hdn hb hbt hz hy hx
   have Fr := Jfg Nr
   clear Nr
   have j0 : (0 : Int) ≤ (j : Int) := by omega
   go_wp2_with fail
   try simp only [List.append_eq, List.cons_append, List.nil_append]
   refine wp_region_noPanic ?_
   refine wp_region_held_drew (S := fun w' => True) (by kernel_rfl) (trivial) (fun _ => ?_)
   refine Jo (fuel := 1) (⟨0, 48, [], Kind.val (num x), false⟩ :: ⟨1, 49, [], Kind.val (num R), false⟩ :: ⟨2, 50, [], Kind.val (.int .i64 (j : Nat)), true⟩ :: ⟨3, 51, [1, 2], Kind.val (.int .u64 (z : Nat)), false⟩ :: ⟨4, 52, [], Kind.val (num M), false⟩ :: ⟨5, 53, [0, 3, 4], Kind.val (num y), false⟩ :: []) _ _ wr _ ?_ ?_ ?_ ?_ ?_ ?_ ?_ ?_ ?_ ?_ ?_
   ·rfl
   ·kernel_rfl
   ·exact of_decide_eq_true rfl
   ·(repeat refine all_cons ⟨_, rfl, rfl⟩ ?_); exact Je
   ·exact fun _ hb => trivial
   ·exact (Below.refl _ _).drew
   ·kernel_rfl
   ·exact fun _ _ _ _ _ h => h
   ·(repeat (refine all_cons ?_ ?_; rotate_left)); exact Je
    all_goals try exact Ji _ (by rfl)
    ·exact Vj _ _ _ _ _ _ (by rfl) (by rfl) (ko 12)
   ·(repeat (refine all_cons ?_ ?_; rotate_left)); exact Je
    ·exact fun _ => Ku _ _ _ _ _ gr _ _ _ _ (by rfl) (by rfl) (ko 11) Fr.out
    ·exact fun _ => Ku _ _ _ _ _ gh _ _ _ _ (by rfl) (by rfl) (ko 4) Fh.out
    ·exact sA
    ·exact fun _ => Kr _ 48 _ _ [.tmp 49, .tmp 50] _ _ _ _ _ _ (by rfl) Tryz.func48 (by kernel_rfl) (by rfl) (by rfl) (.cons (kc 1 49) (.cons (kc 2 50) .nil)) (HB.out)
    ·exact fun _ => Ku _ _ _ _ _ gm _ _ _ _ (by rfl) (by rfl) (ko 5) Fm.out
    ·exact fun _ => Kr _ 80 _ _ [.tmp 48, .tmp 51, .tmp 52] _ _ _ _ _ _ (by rfl) Tryz.func80 (by kernel_rfl) (by rfl) (by rfl) (.cons (kc 0 48) (.cons (kc 3 51) (.cons (kc 4 52) .nil))) (HT.out)
   intro vs y4 hc
   obtain ⟨vv0, vv1, vv2, vv3, vv4, vv5, rfl⟩ := Jfa vs hc.lv
   have qq0 := okv hc 0
   have qq1 := okv hc 1
   have qq2 := okv hc 2
   have qq3 := okv hc 3
   have qq4 := okv hc 4
   have qq5 := okv hc 5
   have BZ := hc.bel
   clear hc
   have Na := Fa.out.on BZ
   have Nh := Fh.out.on BZ
   have Nm := Fm.out.on BZ
   have No := Fo.out.on BZ
   have Nr := Fr.out.on BZ
   have HSZ4 := BW.out.size
   have NB := bel_tr BW.out BZ
   clear BW BZ Fa Fh Fm Fo Fr
   subst qq0 qq1 qq2 qq3 qq4 qq5
   simp only [List.map_cons, List.map_nil, over, Act.put, List.setIfInBounds_toArray, List.set_cons_zero, List.set_cons_succ]
   have OLD := Nr
   replace Na := p4f Na Dar y
   replace Nh := p4f Nh Dhr y
   replace Nm := p4f Nm Dmr y
   replace No := p4f No Dor y
   replace Nr := p4a Nr y
   replace NB := p4b NB Er y
   refine Kt (i := 6) _ _ _ _ _ gr _ _ _ _ _ _ _ _ (by kernel_rfl) (by rfl) (by rfl) (by rfl) OLD (trivial) ?_
   clear OLD
   generalize (put4 y4 gr (.int .u64 (wd y 0)) (.int .u64 (wd y 1)) (.int .u64 (wd y 2)) (.int .u64 (wd y 3))) = y4_6 at *
   refine wpAnyH_done (by kernel_rfl) ?_ _
   refine NoPanic.normal ?_
   have Fa := Jfg Na
   have Fh := Jfg Nh
   have Fm := Jfg Nm
   have Fo := Jfg No
   have Fr := Jfg Nr
   have BW := Jfg NB
   clear NB Na Nh Nm No Nr
   clear HSZ4
   go_wp2_with fail
   go_roundw
   case rel =>
    have Nr := Fr.out
    rw [← HY.out] at Nr
    first
     | exact ⟨j, by omega, by go_num, Fa.out, Fh.out, Fm.out, Fo.out, Nr, BW.out⟩
     | ((repeat apply Exists.intro); exact ⟨⟨j, by omega, by go_num, Fa.out, Fh.out, Fm.out, Fo.out, Nr, BW.out⟩, rfl⟩)
   case measure => (simp [intOf] <;> omega)
end Go.Proofs.YtodlpmepoakdlaaGreat
