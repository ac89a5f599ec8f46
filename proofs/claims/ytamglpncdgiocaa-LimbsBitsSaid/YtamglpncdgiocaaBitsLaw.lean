/-
  The walk of LimbsBits: it answers true, and nothing that was there is changed.
-/
import Derived.Test.YtamglpncdgiocaaBitsLN
namespace Go.Proofs.Ytamglpncdgiocaa
open Go.RowKit
attribute [local go_sem ↓] Go.wp_at_zero Go.wp_at_succ

set_option maxRecDepth 100000 in
set_option maxHeartbeats 8000000 in
theorem bits_walk (X Y : Nat) (hX : X < 2 ^ 256) (hY : Y < 2 ^ 256) (w : World) :
    Calls Try.prog 7 #[num X, num Y] w fun e w' => e = .returned (.bool true) ∧ Below w.heap.size w w' := by
  have C1 := bits_any X hX
  have C2 := bits_any Y hY
  have C3 := cmp_any X Y hX hY
  have k1 := bl_le X hX
  have k2 := bl_le Y hY
  have k3 : ∀ i : Nat, bt X (i : Int) = 1 → i < Go.bitLen X := bl_bit X
  have k4 := bl_top X
  have k5 : Go.bitLen X < Go.bitLen Y → cmpN X Y = -1 := fun h => cmpN_lt (bl_lt X Y h)
  have k6 : Go.bitLen Y < Go.bitLen X → cmpN X Y = 1 := fun h => cmpN_gt (bl_lt Y X h)
  generalize Go.bitLen X = n at *
  generalize Go.bitLen Y = m at *
  generalize cmpN X Y = cc at *
  have A1 := Lib.hid C1; have A2 := Lib.hid C2; have A3 := Lib.hid C3
  have K3 := Lib.hid k3; have K4 := Lib.hid k4; have K5 := Lib.hid k5; have K6 := Lib.hid k6; have K1 := Lib.hid k1; have K2 := Lib.hid k2
  have HX := Lib.hid hX
  have AX := Lib.hid (fun i w => bit_any X hX i w)
  clear C1 C2 C3 k1 k2 k3 k4 k5 k6 hX hY
  have q0 := eqY X
  go_enter Try.func7, Try.ntmps7
  go_wp2_with fail
  have Na : At ((w.alloc (.cells #[.int .u64 (wd X 0 : Nat), .int .u64 (wd X 1 : Nat), .int .u64 (wd X 2 : Nat), .int .u64 (wd X 3 : Nat)] 24)).alloc (.cells #[.int .u64 (wd Y 0 : Nat), .int .u64 (wd Y 1 : Nat), .int .u64 (wd Y 2 : Nat), .int .u64 (wd Y 3 : Nat)] 24)) (w.heap.size) 24 #[.int .u64 (wd X 0 : Nat), .int .u64 (wd X 1 : Nat), .int .u64 (wd X 2 : Nat), .int .u64 (wd X 3 : Nat)] := (At.at_ _ _ _ _ (by simp)).alloc _
  have Nb : At ((w.alloc (.cells #[.int .u64 (wd X 0 : Nat), .int .u64 (wd X 1 : Nat), .int .u64 (wd X 2 : Nat), .int .u64 (wd X 3 : Nat)] 24)).alloc (.cells #[.int .u64 (wd Y 0 : Nat), .int .u64 (wd Y 1 : Nat), .int .u64 (wd Y 2 : Nat), .int .u64 (wd Y 3 : Nat)] 24)) (w.heap.size + 1) 24 #[.int .u64 (wd Y 0 : Nat), .int .u64 (wd Y 1 : Nat), .int .u64 (wd Y 2 : Nat), .int .u64 (wd Y 3 : Nat)] := At.at_ _ _ _ _ (by simp)
  have NB : Below w.heap.size w ((w.alloc (.cells #[.int .u64 (wd X 0 : Nat), .int .u64 (wd X 1 : Nat), .int .u64 (wd X 2 : Nat), .int .u64 (wd X 3 : Nat)] 24)).alloc (.cells #[.int .u64 (wd Y 0 : Nat), .int .u64 (wd Y 1 : Nat), .int .u64 (wd Y 2 : Nat), .int .u64 (wd Y 3 : Nat)] 24)) := by repeat (first | exact Below.refl _ _ | refine gr_alloc ?_ _ | refine Below.drew ?_ | refine bel_tr ?_ (by assumption))
  generalize ((w.alloc (.cells #[.int .u64 (wd X 0 : Nat), .int .u64 (wd X 1 : Nat), .int .u64 (wd X 2 : Nat), .int .u64 (wd X 3 : Nat)] 24)).alloc (.cells #[.int .u64 (wd Y 0 : Nat), .int .u64 (wd Y 1 : Nat), .int .u64 (wd Y 2 : Nat), .int .u64 (wd Y 3 : Nat)] 24)) = W0 at *
  generalize w.heap.size + 1 = gb at *
  generalize w.heap.size = ga at Na ⊢
  have Fa := Lib.hid Na
  have Fb := Lib.hid Nb
  have BW := Lib.hid NB
  clear NB Na Nb
  refine (A1.out _).mono ?_
  rintro e v1 ⟨rfl, z1⟩
  have Na := Lib.hid (Fa.out.on z1)
  have Nb := Lib.hid (Fb.out.on z1)
  have NB := Lib.hid (bel_tr BW.out z1)
  clear BW z1 Fa Fb
  have Fa := Na
  have Fb := Nb
  have BW := NB
  clear NB Na Nb
  go_wp2_with fail
  refine (of0N _).mono ?_
  rintro e v2 ⟨rfl, z2⟩
  have Na := Lib.hid (Fa.out.on z2)
  have Nb := Lib.hid (Fb.out.on z2)
  have NB := Lib.hid (bel_tr BW.out z2)
  clear BW z2 Fa Fb
  have Fa := Na
  have Fb := Nb
  have BW := NB
  clear NB Na Nb
  go_wp2_with fail
  have Nsu : At (v2.alloc (.cells #[.int .u64 (wd 0 0 : Nat), .int .u64 (wd 0 1 : Nat), .int .u64 (wd 0 2 : Nat), .int .u64 (wd 0 3 : Nat)] 24)) (v2.heap.size) 24 #[.int .u64 (wd 0 0 : Nat), .int .u64 (wd 0 1 : Nat), .int .u64 (wd 0 2 : Nat), .int .u64 (wd 0 3 : Nat)] := At.at_ _ _ _ _ (by simp)
  have Esu : w.heap.size ≤ v2.heap.size := by have := BW.out.size; omega
  have Dasu : ga ≠ v2.heap.size := by have := Fa.out.lt; omega
  have Dbsu : gb ≠ v2.heap.size := by have := Fb.out.lt; omega
  have Na : At (v2.alloc (.cells #[.int .u64 (wd 0 0 : Nat), .int .u64 (wd 0 1 : Nat), .int .u64 (wd 0 2 : Nat), .int .u64 (wd 0 3 : Nat)] 24)) ga 24 #[.int .u64 (wd X 0 : Nat), .int .u64 (wd X 1 : Nat), .int .u64 (wd X 2 : Nat), .int .u64 (wd X 3 : Nat)] := Fa.out.alloc _
  have Nb : At (v2.alloc (.cells #[.int .u64 (wd 0 0 : Nat), .int .u64 (wd 0 1 : Nat), .int .u64 (wd 0 2 : Nat), .int .u64 (wd 0 3 : Nat)] 24)) gb 24 #[.int .u64 (wd Y 0 : Nat), .int .u64 (wd Y 1 : Nat), .int .u64 (wd Y 2 : Nat), .int .u64 (wd Y 3 : Nat)] := Fb.out.alloc _
  have NB : Below w.heap.size w (v2.alloc (.cells #[.int .u64 (wd 0 0 : Nat), .int .u64 (wd 0 1 : Nat), .int .u64 (wd 0 2 : Nat), .int .u64 (wd 0 3 : Nat)] 24)) := gr_alloc BW.out _
  clear BW Fa Fb
  generalize (v2.alloc (.cells #[.int .u64 (wd 0 0 : Nat), .int .u64 (wd 0 1 : Nat), .int .u64 (wd 0 2 : Nat), .int .u64 (wd 0 3 : Nat)] 24)) = W3 at *
  generalize v2.heap.size = gsu at *
  have Fa := Lib.hid Na
  have Fb := Lib.hid Nb
  have Fsu := Lib.hid Nsu
  have BW := Lib.hid NB
  clear NB Na Nb Nsu
  have HD := Lib.hid (And.intro Dasu (And.intro Dbsu Esu))
  clear Dasu Dbsu Esu
  go_loopw [7] (fun s wr => ∃ i : Nat, i ≤ 256 ∧ s = .int .i64 i ∧ Hid (At wr ga 24 #[.int .u64 (wd X 0 : Nat), .int .u64 (wd X 1 : Nat), .int .u64 (wd X 2 : Nat), .int .u64 (wd X 3 : Nat)]) ∧ Hid (At wr gb 24 #[.int .u64 (wd Y 0 : Nat), .int .u64 (wd Y 1 : Nat), .int .u64 (wd Y 2 : Nat), .int .u64 (wd Y 3 : Nat)]) ∧ Hid (∃ S, S = X % 2 ^ i ∧ At wr gsu 24 #[.int .u64 (wd S 0 : Nat), .int .u64 (wd S 1 : Nat), .int .u64 (wd S 2 : Nat), .int .u64 (wd S 3 : Nat)]) ∧ Hid (Below w.heap.size w wr)) (fun s _ => 256 - (intOf s).toNat)
  case atStart => exact ⟨0, by omega, rfl, Fa, Fb, ⟨0, by simp [Nat.mod_one], Fsu.out⟩, BW⟩
  case round =>
    clear Fa Fb Fsu BW
    obtain ⟨i, hi, rfl, Fa, Fb, FS, BW⟩ := hrel
    obtain ⟨S, hS, Fsu0⟩ := FS.out
    have Fsu := Lib.hid Fsu0
    have HS := Lib.hid hS
    clear FS Fsu0 hS
    by_cases hlt : i < 256
    · have AX1 := Lib.hid (AX.out (i : Int))
      obtain ⟨sb1, sb2, sb3⟩ := sum_bit X i HX.out hlt
      have hbt : bt X (i : Int) = 0 ∨ bt X (i : Int) = 1 := by unfold bt; split <;> omega
      have k3 := K3.out i
      have SB1 := Lib.hid sb1; have SB2 := Lib.hid sb2; have SB3 := Lib.hid sb3
      clear sb1 sb2 sb3
      generalize bt X (i : Int) = z at *
      rcases hbt with rfl | rfl
      · clear k3
        have La := Fa.out.lt
        have ca0 : wr.cell? ⟨ga, 0, none⟩ = some (.int .u64 (wd X 0 : Nat)) := Fa.out.cell 0
        have ca1 : wr.cell? ⟨ga, 1, none⟩ = some (.int .u64 (wd X 1 : Nat)) := Fa.out.cell 1
        have ca2 : wr.cell? ⟨ga, 2, none⟩ = some (.int .u64 (wd X 2 : Nat)) := Fa.out.cell 2
        have ca3 : wr.cell? ⟨ga, 3, none⟩ = some (.int .u64 (wd X 3 : Nat)) := Fa.out.cell 3
        go_wp2_with fail
        clear La ca0 ca1 ca2 ca3
        refine (AX1.out _).mono ?_
        rintro e v4 ⟨rfl, z4⟩
        have Na := Lib.hid (Fa.out.on z4)
        have Nb := Lib.hid (Fb.out.on z4)
        have Nsu := Lib.hid (Fsu.out.on z4)
        have NB := Lib.hid (bel_tr BW.out z4)
        clear BW z4 Fa Fb Fsu
        have Fa := Na
        have Fb := Nb
        have Fsu := Nsu
        have BW := NB
        clear NB Na Nb Nsu
        go_wp2
        go_roundw
        case rel => exact ⟨i + 1, by omega, by go_num, Fa, Fb, ⟨S, by rw [SB1.out, HS.out]; simp, Fsu.out⟩, BW⟩
        case measure => simp [intOf]; omega
      · have k3n : ¬ (n : Int) ≤ (i : Int) := by have := k3 rfl; omega
        have k3m : (i : Int) < (n : Int) := by omega
        clear k3
        have hSl : S < 2 ^ 256 := by have := SB2.out; rw [HS.out]; omega
        obtain ⟨S2, c2, hS2, hc2, eS2, CA⟩ := add_ex S (shN 1 (i : Int)) hSl (sh_lt 1 (by omega) _)
        have CS := shift_any 1 (by omega) (i : Int) (by omega) (by omega)
        have hS2e : S2 = X % 2 ^ (i + 1) := by have h1 := SB1.out; have h2 := SB2.out; rw [SB3.out, HS.out] at eS2; rw [h1]; omega
        have HS2 := Lib.hid hS2e
        have CAh := Lib.hid CA; have CSh := Lib.hid CS
        clear CA CS hS2e eS2 hc2 hS2 hSl SB1 SB2 SB3
        generalize shN 1 (i : Int) = sv at *
        have La := Fa.out.lt
        have ca0 : wr.cell? ⟨ga, 0, none⟩ = some (.int .u64 (wd X 0 : Nat)) := Fa.out.cell 0
        have ca1 : wr.cell? ⟨ga, 1, none⟩ = some (.int .u64 (wd X 1 : Nat)) := Fa.out.cell 1
        have ca2 : wr.cell? ⟨ga, 2, none⟩ = some (.int .u64 (wd X 2 : Nat)) := Fa.out.cell 2
        have ca3 : wr.cell? ⟨ga, 3, none⟩ = some (.int .u64 (wd X 3 : Nat)) := Fa.out.cell 3
        go_wp2_with fail
        clear La ca0 ca1 ca2 ca3
        refine (AX1.out _).mono ?_
        rintro e v4 ⟨rfl, z4⟩
        have Na := Lib.hid (Fa.out.on z4)
        have Nb := Lib.hid (Fb.out.on z4)
        have Nsu := Lib.hid (Fsu.out.on z4)
        have NB := Lib.hid (bel_tr BW.out z4)
        clear BW z4 Fa Fb Fsu
        have Fa := Na
        have Fb := Nb
        have Fsu := Nsu
        have BW := NB
        clear NB Na Nb Nsu
        go_wp2_with fail
        obtain ⟨Dasu, Dbsu, Esu⟩ := HD.out
        try simp only [List.append_eq, List.cons_append, List.nil_append]
        have B0 : Below v4.heap.size v4 v4.drew := (Below.refl _ _).drew
        refine wp_region_noPanic ?_
        refine wp_region_held_drew (S := fun w' => True) (by kernel_rfl) trivial (fun hHeld => ?_)
        generalize v4.drew = x0 at *
        refine wpAnyH_take (i := 2) (oi := ?_) (v := ?_) ?_ (by kernel_rfl) (by kernel_rfl) (by kernel_rfl) (fun _ _ _ h => h) ?_ (by assumption) ?_
        rotate_left 2
        · simp only [List.getElem?_toArray, List.getElem?_cons_succ, List.getElem?_cons_zero]; exact rfl
        · refine Or.inl ⟨by rfl, ?_⟩; intro w hSw; (try dsimp only at hSw); go_simp; try with_reducible rfl
        try simp only [Act.put, List.setIfInBounds_toArray, List.set_cons_zero, List.set_cons_succ]
        refine wpAnyH_ready (rs := [0, 1]) (by kernel_rfl) (by simp) ?_
        refine AllReadyH.cons (o := ?_) ?_ ?_ ?_
        rotate_left 1
        · simp only [List.getElem?_toArray, List.getElem?_cons_succ, List.getElem?_cons_zero]; exact rfl
        · intro K hK
          have c0 : x0.cell? ⟨gsu, 0, none⟩ = some (.int .u64 (wd S 0 : Nat)) := (Fsu.out.on B0).cell 0
          have c1 : x0.cell? ⟨gsu, 1, none⟩ = some (.int .u64 (wd S 1 : Nat)) := (Fsu.out.on B0).cell 1
          have c2 : x0.cell? ⟨gsu, 2, none⟩ = some (.int .u64 (wd S 2 : Nat)) := (Fsu.out.on B0).cell 2
          have c3 : x0.cell? ⟨gsu, 3, none⟩ = some (.int .u64 (wd S 3 : Nat)) := (Fsu.out.on B0).cell 3
          go_simp
          refine hK.out _ _ trivial (fun hHeld => ?_)
          clear hK K c0 c1 c2 c3
          try simp only [Act.put, List.setIfInBounds_toArray, List.set_cons_zero, List.set_cons_succ]
          refine wpAnyH_ready (rs := [1]) (by kernel_rfl) (by simp) ?_
          refine AllReadyH.cons (o := ?_) ?_ ?_ AllReadyH.nil
          rotate_left
          · simp only [List.getElem?_toArray, List.getElem?_cons_succ, List.getElem?_cons_zero]; exact rfl
          intro K hK
          go_simp
          refine (of1N _).mono ?_
          rintro e x2 ⟨rfl, y⟩
          have B_x2 : Below v4.heap.size v4 x2 := bel_tr B0 y
          clear y hHeld B0
          refine hK.out _ _ trivial (fun hHeld => ?_)
          clear hK K
          try simp only [Act.put, List.setIfInBounds_toArray, List.set_cons_zero, List.set_cons_succ]
          refine wpAnyH_ready (rs := [3]) (by kernel_rfl) (by simp) ?_
          refine AllReadyH.cons (o := ?_) ?_ ?_ AllReadyH.nil
          rotate_left
          · simp only [List.getElem?_toArray, List.getElem?_cons_succ, List.getElem?_cons_zero]; exact rfl
          intro K hK
          go_simp
          refine (CSh.out _).mono ?_
          rintro e x3 ⟨rfl, y⟩
          have B_x3 : Below v4.heap.size v4 x3 := bel_tr B_x2 y
          clear y hHeld B_x2
          refine hK.out _ _ trivial (fun hHeld => ?_)
          clear hK K
          try simp only [Act.put, List.setIfInBounds_toArray, List.set_cons_zero, List.set_cons_succ]
          refine wpAnyH_ready (rs := [4]) (by kernel_rfl) (by simp) ?_
          refine AllReadyH.cons (o := ?_) ?_ ?_ AllReadyH.nil
          rotate_left
          · simp only [List.getElem?_toArray, List.getElem?_cons_succ, List.getElem?_cons_zero]; exact rfl
          intro K hK
          go_simp
          refine (CAh.out _).mono ?_
          rintro e x4 ⟨rfl, y⟩
          have B_x4 : Below v4.heap.size v4 x4 := bel_tr B_x3 y
          clear y hHeld B_x3
          refine hK.out _ _ trivial (fun hHeld => ?_)
          clear hK K
          try simp only [Act.put, List.setIfInBounds_toArray, List.set_cons_zero, List.set_cons_succ]
          refine wpAnyH_take (i := 5) (oi := ?_) (v := ?_) ?_ (by kernel_rfl) (by kernel_rfl) (by kernel_rfl) (fun _ _ _ h => h) ?_ (by assumption) ?_
          rotate_left 2
          · simp only [List.getElem?_toArray, List.getElem?_cons_succ, List.getElem?_cons_zero]; exact rfl
          · refine Or.inl ⟨by rfl, ?_⟩; intro w hSw; (try dsimp only at hSw); go_simp; try with_reducible rfl
          try simp only [Act.put, List.setIfInBounds_toArray, List.set_cons_zero, List.set_cons_succ]
          refine wpAnyH_take (i := 6) (oi := ?_) (v := ?_) ?_ (by kernel_rfl) (by kernel_rfl) (by kernel_rfl) (fun _ _ _ h => h) ?_ (by assumption) ?_
          rotate_left 2
          · simp only [List.getElem?_toArray, List.getElem?_cons_succ, List.getElem?_cons_zero]; exact rfl
          · refine Or.inl ⟨by rfl, ?_⟩; intro w hSw; (try dsimp only at hSw); go_simp; try with_reducible rfl
          try simp only [Act.put, List.setIfInBounds_toArray, List.set_cons_zero, List.set_cons_succ]
          refine wpAnyH_take (i := 7) (oi := ?_) (v := ?_) ?_ (by kernel_rfl) (by kernel_rfl) (by kernel_rfl) (fun _ _ _ h => h) ?_ (by assumption) ?_
          rotate_left 2
          · simp only [List.getElem?_toArray, List.getElem?_cons_succ, List.getElem?_cons_zero]; exact rfl
          · refine Or.inl ⟨by rfl, ?_⟩; intro w hSw; (try dsimp only at hSw); go_simp; try with_reducible rfl
          try simp only [Act.put, List.setIfInBounds_toArray, List.set_cons_zero, List.set_cons_succ]
          refine wpAnyH_ready (rs := [8]) (by kernel_rfl) (by simp) ?_
          refine AllReadyH.cons (o := ?_) ?_ ?_ AllReadyH.nil
          rotate_left
          · simp only [List.getElem?_toArray, List.getElem?_cons_succ, List.getElem?_cons_zero]; exact rfl
          intro K hK
          have c0 : x4.cell? ⟨gsu, 0, none⟩ = some (.int .u64 (wd S 0 : Nat)) := (Fsu.out.on B_x4).cell 0
          have f0 : x4.frozen? ⟨gsu, 0, none⟩ = false := (Fsu.out.on B_x4).frozen 0
          have c1 : x4.cell? ⟨gsu, 1, none⟩ = some (.int .u64 (wd S 1 : Nat)) := (Fsu.out.on B_x4).cell 1
          have f1 : x4.frozen? ⟨gsu, 1, none⟩ = false := (Fsu.out.on B_x4).frozen 1
          have c2 : x4.cell? ⟨gsu, 2, none⟩ = some (.int .u64 (wd S 2 : Nat)) := (Fsu.out.on B_x4).cell 2
          have f2 : x4.frozen? ⟨gsu, 2, none⟩ = false := (Fsu.out.on B_x4).frozen 2
          have c3 : x4.cell? ⟨gsu, 3, none⟩ = some (.int .u64 (wd S 3 : Nat)) := (Fsu.out.on B_x4).cell 3
          have f3 : x4.frozen? ⟨gsu, 3, none⟩ = false := (Fsu.out.on B_x4).frozen 3
          go_simp
          have SV : At ((((x4.setCell ⟨gsu, 0, none⟩ (.int .u64 (wd S2 0 : Nat))).setCell ⟨gsu, 1, none⟩ (.int .u64 (wd S2 1 : Nat))).setCell ⟨gsu, 2, none⟩ (.int .u64 (wd S2 2 : Nat))).setCell ⟨gsu, 3, none⟩ (.int .u64 (wd S2 3 : Nat))) gsu 24 #[.int .u64 (wd S2 0 : Nat), .int .u64 (wd S2 1 : Nat), .int .u64 (wd S2 2 : Nat), .int .u64 (wd S2 3 : Nat)] := (Fsu.out.on B_x4).put4 _ _ _ _
          have SOa : At ((((x4.setCell ⟨gsu, 0, none⟩ (.int .u64 (wd S2 0 : Nat))).setCell ⟨gsu, 1, none⟩ (.int .u64 (wd S2 1 : Nat))).setCell ⟨gsu, 2, none⟩ (.int .u64 (wd S2 2 : Nat))).setCell ⟨gsu, 3, none⟩ (.int .u64 (wd S2 3 : Nat))) ga 24 #[.int .u64 (wd X 0 : Nat), .int .u64 (wd X 1 : Nat), .int .u64 (wd X 2 : Nat), .int .u64 (wd X 3 : Nat)] := (Fa.out.on B_x4).far4 Dasu _ _ _ _
          have SOb : At ((((x4.setCell ⟨gsu, 0, none⟩ (.int .u64 (wd S2 0 : Nat))).setCell ⟨gsu, 1, none⟩ (.int .u64 (wd S2 1 : Nat))).setCell ⟨gsu, 2, none⟩ (.int .u64 (wd S2 2 : Nat))).setCell ⟨gsu, 3, none⟩ (.int .u64 (wd S2 3 : Nat))) gb 24 #[.int .u64 (wd Y 0 : Nat), .int .u64 (wd Y 1 : Nat), .int .u64 (wd Y 2 : Nat), .int .u64 (wd Y 3 : Nat)] := (Fb.out.on B_x4).far4 Dbsu _ _ _ _
          have SB : Below w.heap.size w ((((x4.setCell ⟨gsu, 0, none⟩ (.int .u64 (wd S2 0 : Nat))).setCell ⟨gsu, 1, none⟩ (.int .u64 (wd S2 1 : Nat))).setCell ⟨gsu, 2, none⟩ (.int .u64 (wd S2 2 : Nat))).setCell ⟨gsu, 3, none⟩ (.int .u64 (wd S2 3 : Nat))) := ((((bel_tr BW.out B_x4).setCell Esu _).setCell Esu _).setCell Esu _).setCell Esu _
          refine hK.out _ _ trivial (fun hHeld => ?_)
          clear hK K c0 c1 c2 c3 f0 f1 f2 f3
          try simp only [Act.put, List.setIfInBounds_toArray, List.set_cons_zero, List.set_cons_succ]
          generalize ((((x4.setCell ⟨gsu, 0, none⟩ (.int .u64 (wd S2 0 : Nat))).setCell ⟨gsu, 1, none⟩ (.int .u64 (wd S2 1 : Nat))).setCell ⟨gsu, 2, none⟩ (.int .u64 (wd S2 2 : Nat))).setCell ⟨gsu, 3, none⟩ (.int .u64 (wd S2 3 : Nat))) = x5 at *
          refine wpAnyH_done (by kernel_rfl) ?_ _
          refine NoPanic.normal ?_
          clear hHeld
          go_wp2
          go_roundw
          case rel => exact ⟨i + 1, by omega, by go_num, SOa, SOb, ⟨S2, HS2.out, SV⟩, SB⟩
          case measure => simp [intOf]; omega
        refine AllReadyH.cons (o := ?_) ?_ ?_ AllReadyH.nil
        rotate_left
        · simp only [List.getElem?_toArray, List.getElem?_cons_succ, List.getElem?_cons_zero]; exact rfl
        intro K hK
        go_simp
        refine (of1N _).mono ?_
        rintro e x6 ⟨rfl, y⟩
        have B_x6 : Below v4.heap.size v4 x6 := bel_tr B0 y
        clear y hHeld B0
        refine hK.out _ _ trivial (fun hHeld => ?_)
        clear hK K
        try simp only [Act.put, List.setIfInBounds_toArray, List.set_cons_zero, List.set_cons_succ]
        refine wpAnyH_ready (rs := [0, 3]) (by kernel_rfl) (by simp) ?_
        refine AllReadyH.cons (o := ?_) ?_ ?_ ?_
        rotate_left 1
        · simp only [List.getElem?_toArray, List.getElem?_cons_succ, List.getElem?_cons_zero]; exact rfl
        · intro K hK
          have c0 : x6.cell? ⟨gsu, 0, none⟩ = some (.int .u64 (wd S 0 : Nat)) := (Fsu.out.on B_x6).cell 0
          have c1 : x6.cell? ⟨gsu, 1, none⟩ = some (.int .u64 (wd S 1 : Nat)) := (Fsu.out.on B_x6).cell 1
          have c2 : x6.cell? ⟨gsu, 2, none⟩ = some (.int .u64 (wd S 2 : Nat)) := (Fsu.out.on B_x6).cell 2
          have c3 : x6.cell? ⟨gsu, 3, none⟩ = some (.int .u64 (wd S 3 : Nat)) := (Fsu.out.on B_x6).cell 3
          go_simp
          refine hK.out _ _ trivial (fun hHeld => ?_)
          clear hK K c0 c1 c2 c3
          try simp only [Act.put, List.setIfInBounds_toArray, List.set_cons_zero, List.set_cons_succ]
          refine wpAnyH_ready (rs := [3]) (by kernel_rfl) (by simp) ?_
          refine AllReadyH.cons (o := ?_) ?_ ?_ AllReadyH.nil
          rotate_left
          · simp only [List.getElem?_toArray, List.getElem?_cons_succ, List.getElem?_cons_zero]; exact rfl
          intro K hK
          go_simp
          refine (CSh.out _).mono ?_
          rintro e x8 ⟨rfl, y⟩
          have B_x8 : Below v4.heap.size v4 x8 := bel_tr B_x6 y
          clear y hHeld B_x6
          refine hK.out _ _ trivial (fun hHeld => ?_)
          clear hK K
          try simp only [Act.put, List.setIfInBounds_toArray, List.set_cons_zero, List.set_cons_succ]
          refine wpAnyH_ready (rs := [4]) (by kernel_rfl) (by simp) ?_
          refine AllReadyH.cons (o := ?_) ?_ ?_ AllReadyH.nil
          rotate_left
          · simp only [List.getElem?_toArray, List.getElem?_cons_succ, List.getElem?_cons_zero]; exact rfl
          intro K hK
          go_simp
          refine (CAh.out _).mono ?_
          rintro e x9 ⟨rfl, y⟩
          have B_x9 : Below v4.heap.size v4 x9 := bel_tr B_x8 y
          clear y hHeld B_x8
          refine hK.out _ _ trivial (fun hHeld => ?_)
          clear hK K
          try simp only [Act.put, List.setIfInBounds_toArray, List.set_cons_zero, List.set_cons_succ]
          refine wpAnyH_take (i := 5) (oi := ?_) (v := ?_) ?_ (by kernel_rfl) (by kernel_rfl) (by kernel_rfl) (fun _ _ _ h => h) ?_ (by assumption) ?_
          rotate_left 2
          · simp only [List.getElem?_toArray, List.getElem?_cons_succ, List.getElem?_cons_zero]; exact rfl
          · refine Or.inl ⟨by rfl, ?_⟩; intro w hSw; (try dsimp only at hSw); go_simp; try with_reducible rfl
          try simp only [Act.put, List.setIfInBounds_toArray, List.set_cons_zero, List.set_cons_succ]
          refine wpAnyH_take (i := 6) (oi := ?_) (v := ?_) ?_ (by kernel_rfl) (by kernel_rfl) (by kernel_rfl) (fun _ _ _ h => h) ?_ (by assumption) ?_
          rotate_left 2
          · simp only [List.getElem?_toArray, List.getElem?_cons_succ, List.getElem?_cons_zero]; exact rfl
          · refine Or.inl ⟨by rfl, ?_⟩; intro w hSw; (try dsimp only at hSw); go_simp; try with_reducible rfl
          try simp only [Act.put, List.setIfInBounds_toArray, List.set_cons_zero, List.set_cons_succ]
          refine wpAnyH_take (i := 7) (oi := ?_) (v := ?_) ?_ (by kernel_rfl) (by kernel_rfl) (by kernel_rfl) (fun _ _ _ h => h) ?_ (by assumption) ?_
          rotate_left 2
          · simp only [List.getElem?_toArray, List.getElem?_cons_succ, List.getElem?_cons_zero]; exact rfl
          · refine Or.inl ⟨by rfl, ?_⟩; intro w hSw; (try dsimp only at hSw); go_simp; try with_reducible rfl
          try simp only [Act.put, List.setIfInBounds_toArray, List.set_cons_zero, List.set_cons_succ]
          refine wpAnyH_ready (rs := [8]) (by kernel_rfl) (by simp) ?_
          refine AllReadyH.cons (o := ?_) ?_ ?_ AllReadyH.nil
          rotate_left
          · simp only [List.getElem?_toArray, List.getElem?_cons_succ, List.getElem?_cons_zero]; exact rfl
          intro K hK
          have c0 : x9.cell? ⟨gsu, 0, none⟩ = some (.int .u64 (wd S 0 : Nat)) := (Fsu.out.on B_x9).cell 0
          have f0 : x9.frozen? ⟨gsu, 0, none⟩ = false := (Fsu.out.on B_x9).frozen 0
          have c1 : x9.cell? ⟨gsu, 1, none⟩ = some (.int .u64 (wd S 1 : Nat)) := (Fsu.out.on B_x9).cell 1
          have f1 : x9.frozen? ⟨gsu, 1, none⟩ = false := (Fsu.out.on B_x9).frozen 1
          have c2 : x9.cell? ⟨gsu, 2, none⟩ = some (.int .u64 (wd S 2 : Nat)) := (Fsu.out.on B_x9).cell 2
          have f2 : x9.frozen? ⟨gsu, 2, none⟩ = false := (Fsu.out.on B_x9).frozen 2
          have c3 : x9.cell? ⟨gsu, 3, none⟩ = some (.int .u64 (wd S 3 : Nat)) := (Fsu.out.on B_x9).cell 3
          have f3 : x9.frozen? ⟨gsu, 3, none⟩ = false := (Fsu.out.on B_x9).frozen 3
          go_simp
          have SV : At ((((x9.setCell ⟨gsu, 0, none⟩ (.int .u64 (wd S2 0 : Nat))).setCell ⟨gsu, 1, none⟩ (.int .u64 (wd S2 1 : Nat))).setCell ⟨gsu, 2, none⟩ (.int .u64 (wd S2 2 : Nat))).setCell ⟨gsu, 3, none⟩ (.int .u64 (wd S2 3 : Nat))) gsu 24 #[.int .u64 (wd S2 0 : Nat), .int .u64 (wd S2 1 : Nat), .int .u64 (wd S2 2 : Nat), .int .u64 (wd S2 3 : Nat)] := (Fsu.out.on B_x9).put4 _ _ _ _
          have SOa : At ((((x9.setCell ⟨gsu, 0, none⟩ (.int .u64 (wd S2 0 : Nat))).setCell ⟨gsu, 1, none⟩ (.int .u64 (wd S2 1 : Nat))).setCell ⟨gsu, 2, none⟩ (.int .u64 (wd S2 2 : Nat))).setCell ⟨gsu, 3, none⟩ (.int .u64 (wd S2 3 : Nat))) ga 24 #[.int .u64 (wd X 0 : Nat), .int .u64 (wd X 1 : Nat), .int .u64 (wd X 2 : Nat), .int .u64 (wd X 3 : Nat)] := (Fa.out.on B_x9).far4 Dasu _ _ _ _
          have SOb : At ((((x9.setCell ⟨gsu, 0, none⟩ (.int .u64 (wd S2 0 : Nat))).setCell ⟨gsu, 1, none⟩ (.int .u64 (wd S2 1 : Nat))).setCell ⟨gsu, 2, none⟩ (.int .u64 (wd S2 2 : Nat))).setCell ⟨gsu, 3, none⟩ (.int .u64 (wd S2 3 : Nat))) gb 24 #[.int .u64 (wd Y 0 : Nat), .int .u64 (wd Y 1 : Nat), .int .u64 (wd Y 2 : Nat), .int .u64 (wd Y 3 : Nat)] := (Fb.out.on B_x9).far4 Dbsu _ _ _ _
          have SB : Below w.heap.size w ((((x9.setCell ⟨gsu, 0, none⟩ (.int .u64 (wd S2 0 : Nat))).setCell ⟨gsu, 1, none⟩ (.int .u64 (wd S2 1 : Nat))).setCell ⟨gsu, 2, none⟩ (.int .u64 (wd S2 2 : Nat))).setCell ⟨gsu, 3, none⟩ (.int .u64 (wd S2 3 : Nat))) := ((((bel_tr BW.out B_x9).setCell Esu _).setCell Esu _).setCell Esu _).setCell Esu _
          refine hK.out _ _ trivial (fun hHeld => ?_)
          clear hK K c0 c1 c2 c3 f0 f1 f2 f3
          try simp only [Act.put, List.setIfInBounds_toArray, List.set_cons_zero, List.set_cons_succ]
          generalize ((((x9.setCell ⟨gsu, 0, none⟩ (.int .u64 (wd S2 0 : Nat))).setCell ⟨gsu, 1, none⟩ (.int .u64 (wd S2 1 : Nat))).setCell ⟨gsu, 2, none⟩ (.int .u64 (wd S2 2 : Nat))).setCell ⟨gsu, 3, none⟩ (.int .u64 (wd S2 3 : Nat))) = x10 at *
          refine wpAnyH_done (by kernel_rfl) ?_ _
          refine NoPanic.normal ?_
          clear hHeld
          go_wp2
          go_roundw
          case rel => exact ⟨i + 1, by omega, by go_num, SOa, SOb, ⟨S2, HS2.out, SV⟩, SB⟩
          case measure => simp [intOf]; omega
        refine AllReadyH.cons (o := ?_) ?_ ?_ AllReadyH.nil
        rotate_left
        · simp only [List.getElem?_toArray, List.getElem?_cons_succ, List.getElem?_cons_zero]; exact rfl
        intro K hK
        go_simp
        refine (CSh.out _).mono ?_
        rintro e x11 ⟨rfl, y⟩
        have B_x11 : Below v4.heap.size v4 x11 := bel_tr B_x6 y
        clear y hHeld B_x6
        refine hK.out _ _ trivial (fun hHeld => ?_)
        clear hK K
        try simp only [Act.put, List.setIfInBounds_toArray, List.set_cons_zero, List.set_cons_succ]
        refine wpAnyH_ready (rs := [0]) (by kernel_rfl) (by simp) ?_
        refine AllReadyH.cons (o := ?_) ?_ ?_ AllReadyH.nil
        rotate_left
        · simp only [List.getElem?_toArray, List.getElem?_cons_succ, List.getElem?_cons_zero]; exact rfl
        intro K hK
        have c0 : x11.cell? ⟨gsu, 0, none⟩ = some (.int .u64 (wd S 0 : Nat)) := (Fsu.out.on B_x11).cell 0
        have c1 : x11.cell? ⟨gsu, 1, none⟩ = some (.int .u64 (wd S 1 : Nat)) := (Fsu.out.on B_x11).cell 1
        have c2 : x11.cell? ⟨gsu, 2, none⟩ = some (.int .u64 (wd S 2 : Nat)) := (Fsu.out.on B_x11).cell 2
        have c3 : x11.cell? ⟨gsu, 3, none⟩ = some (.int .u64 (wd S 3 : Nat)) := (Fsu.out.on B_x11).cell 3
        go_simp
        refine hK.out _ _ trivial (fun hHeld => ?_)
        clear hK K c0 c1 c2 c3
        try simp only [Act.put, List.setIfInBounds_toArray, List.set_cons_zero, List.set_cons_succ]
        refine wpAnyH_ready (rs := [4]) (by kernel_rfl) (by simp) ?_
        refine AllReadyH.cons (o := ?_) ?_ ?_ AllReadyH.nil
        rotate_left
        · simp only [List.getElem?_toArray, List.getElem?_cons_succ, List.getElem?_cons_zero]; exact rfl
        intro K hK
        go_simp
        refine (CAh.out _).mono ?_
        rintro e x13 ⟨rfl, y⟩
        have B_x13 : Below v4.heap.size v4 x13 := bel_tr B_x11 y
        clear y hHeld B_x11
        refine hK.out _ _ trivial (fun hHeld => ?_)
        clear hK K
        try simp only [Act.put, List.setIfInBounds_toArray, List.set_cons_zero, List.set_cons_succ]
        refine wpAnyH_take (i := 5) (oi := ?_) (v := ?_) ?_ (by kernel_rfl) (by kernel_rfl) (by kernel_rfl) (fun _ _ _ h => h) ?_ (by assumption) ?_
        rotate_left 2
        · simp only [List.getElem?_toArray, List.getElem?_cons_succ, List.getElem?_cons_zero]; exact rfl
        · refine Or.inl ⟨by rfl, ?_⟩; intro w hSw; (try dsimp only at hSw); go_simp; try with_reducible rfl
        try simp only [Act.put, List.setIfInBounds_toArray, List.set_cons_zero, List.set_cons_succ]
        refine wpAnyH_take (i := 6) (oi := ?_) (v := ?_) ?_ (by kernel_rfl) (by kernel_rfl) (by kernel_rfl) (fun _ _ _ h => h) ?_ (by assumption) ?_
        rotate_left 2
        · simp only [List.getElem?_toArray, List.getElem?_cons_succ, List.getElem?_cons_zero]; exact rfl
        · refine Or.inl ⟨by rfl, ?_⟩; intro w hSw; (try dsimp only at hSw); go_simp; try with_reducible rfl
        try simp only [Act.put, List.setIfInBounds_toArray, List.set_cons_zero, List.set_cons_succ]
        refine wpAnyH_take (i := 7) (oi := ?_) (v := ?_) ?_ (by kernel_rfl) (by kernel_rfl) (by kernel_rfl) (fun _ _ _ h => h) ?_ (by assumption) ?_
        rotate_left 2
        · simp only [List.getElem?_toArray, List.getElem?_cons_succ, List.getElem?_cons_zero]; exact rfl
        · refine Or.inl ⟨by rfl, ?_⟩; intro w hSw; (try dsimp only at hSw); go_simp; try with_reducible rfl
        try simp only [Act.put, List.setIfInBounds_toArray, List.set_cons_zero, List.set_cons_succ]
        refine wpAnyH_ready (rs := [8]) (by kernel_rfl) (by simp) ?_
        refine AllReadyH.cons (o := ?_) ?_ ?_ AllReadyH.nil
        rotate_left
        · simp only [List.getElem?_toArray, List.getElem?_cons_succ, List.getElem?_cons_zero]; exact rfl
        intro K hK
        have c0 : x13.cell? ⟨gsu, 0, none⟩ = some (.int .u64 (wd S 0 : Nat)) := (Fsu.out.on B_x13).cell 0
        have f0 : x13.frozen? ⟨gsu, 0, none⟩ = false := (Fsu.out.on B_x13).frozen 0
        have c1 : x13.cell? ⟨gsu, 1, none⟩ = some (.int .u64 (wd S 1 : Nat)) := (Fsu.out.on B_x13).cell 1
        have f1 : x13.frozen? ⟨gsu, 1, none⟩ = false := (Fsu.out.on B_x13).frozen 1
        have c2 : x13.cell? ⟨gsu, 2, none⟩ = some (.int .u64 (wd S 2 : Nat)) := (Fsu.out.on B_x13).cell 2
        have f2 : x13.frozen? ⟨gsu, 2, none⟩ = false := (Fsu.out.on B_x13).frozen 2
        have c3 : x13.cell? ⟨gsu, 3, none⟩ = some (.int .u64 (wd S 3 : Nat)) := (Fsu.out.on B_x13).cell 3
        have f3 : x13.frozen? ⟨gsu, 3, none⟩ = false := (Fsu.out.on B_x13).frozen 3
        go_simp
        have SV : At ((((x13.setCell ⟨gsu, 0, none⟩ (.int .u64 (wd S2 0 : Nat))).setCell ⟨gsu, 1, none⟩ (.int .u64 (wd S2 1 : Nat))).setCell ⟨gsu, 2, none⟩ (.int .u64 (wd S2 2 : Nat))).setCell ⟨gsu, 3, none⟩ (.int .u64 (wd S2 3 : Nat))) gsu 24 #[.int .u64 (wd S2 0 : Nat), .int .u64 (wd S2 1 : Nat), .int .u64 (wd S2 2 : Nat), .int .u64 (wd S2 3 : Nat)] := (Fsu.out.on B_x13).put4 _ _ _ _
        have SOa : At ((((x13.setCell ⟨gsu, 0, none⟩ (.int .u64 (wd S2 0 : Nat))).setCell ⟨gsu, 1, none⟩ (.int .u64 (wd S2 1 : Nat))).setCell ⟨gsu, 2, none⟩ (.int .u64 (wd S2 2 : Nat))).setCell ⟨gsu, 3, none⟩ (.int .u64 (wd S2 3 : Nat))) ga 24 #[.int .u64 (wd X 0 : Nat), .int .u64 (wd X 1 : Nat), .int .u64 (wd X 2 : Nat), .int .u64 (wd X 3 : Nat)] := (Fa.out.on B_x13).far4 Dasu _ _ _ _
        have SOb : At ((((x13.setCell ⟨gsu, 0, none⟩ (.int .u64 (wd S2 0 : Nat))).setCell ⟨gsu, 1, none⟩ (.int .u64 (wd S2 1 : Nat))).setCell ⟨gsu, 2, none⟩ (.int .u64 (wd S2 2 : Nat))).setCell ⟨gsu, 3, none⟩ (.int .u64 (wd S2 3 : Nat))) gb 24 #[.int .u64 (wd Y 0 : Nat), .int .u64 (wd Y 1 : Nat), .int .u64 (wd Y 2 : Nat), .int .u64 (wd Y 3 : Nat)] := (Fb.out.on B_x13).far4 Dbsu _ _ _ _
        have SB : Below w.heap.size w ((((x13.setCell ⟨gsu, 0, none⟩ (.int .u64 (wd S2 0 : Nat))).setCell ⟨gsu, 1, none⟩ (.int .u64 (wd S2 1 : Nat))).setCell ⟨gsu, 2, none⟩ (.int .u64 (wd S2 2 : Nat))).setCell ⟨gsu, 3, none⟩ (.int .u64 (wd S2 3 : Nat))) := ((((bel_tr BW.out B_x13).setCell Esu _).setCell Esu _).setCell Esu _).setCell Esu _
        refine hK.out _ _ trivial (fun hHeld => ?_)
        clear hK K c0 c1 c2 c3 f0 f1 f2 f3
        try simp only [Act.put, List.setIfInBounds_toArray, List.set_cons_zero, List.set_cons_succ]
        generalize ((((x13.setCell ⟨gsu, 0, none⟩ (.int .u64 (wd S2 0 : Nat))).setCell ⟨gsu, 1, none⟩ (.int .u64 (wd S2 1 : Nat))).setCell ⟨gsu, 2, none⟩ (.int .u64 (wd S2 2 : Nat))).setCell ⟨gsu, 3, none⟩ (.int .u64 (wd S2 3 : Nat))) = x14 at *
        refine wpAnyH_done (by kernel_rfl) ?_ _
        refine NoPanic.normal ?_
        clear hHeld
        go_wp2
        go_roundw
        case rel => exact ⟨i + 1, by omega, by go_num, SOa, SOb, ⟨S2, HS2.out, SV⟩, SB⟩
        case measure => simp [intOf]; omega
    · obtain rfl : i = 256 := by omega
      have hSX : S = X := by rw [HS.out]; exact Nat.mod_eq_of_lt HX.out
      subst hSX
      clear HS
      have Lb := Fb.out.lt
      have cb0 : wr.cell? ⟨gb, 0, none⟩ = some (.int .u64 (wd Y 0 : Nat)) := Fb.out.cell 0
      have cb1 : wr.cell? ⟨gb, 1, none⟩ = some (.int .u64 (wd Y 1 : Nat)) := Fb.out.cell 1
      have cb2 : wr.cell? ⟨gb, 2, none⟩ = some (.int .u64 (wd Y 2 : Nat)) := Fb.out.cell 2
      have cb3 : wr.cell? ⟨gb, 3, none⟩ = some (.int .u64 (wd Y 3 : Nat)) := Fb.out.cell 3
      go_wp2_with fail
      clear Lb cb0 cb1 cb2 cb3
      refine (A2.out _).mono ?_
      rintro e v4 ⟨rfl, z4⟩
      have Na := Lib.hid (Fa.out.on z4)
      have Nb := Lib.hid (Fb.out.on z4)
      have Nsu := Lib.hid (Fsu.out.on z4)
      have NB := Lib.hid (bel_tr BW.out z4)
      clear BW z4 Fa Fb Fsu
      have Fa := Na
      have Fb := Nb
      have Fsu := Nsu
      have BW := NB
      clear NB Na Nb Nsu
      have k1 := K1.out; have k2 := K2.out; have k4 := K4.out
      have AX1 := Lib.hid (AX.out ((n - 1 : Nat) : Int))
      have s9 : IntKind.i64.wrap ((n : Int) - 1) = (n : Int) - 1 := by rw [IntKind.wrap_i64]; omega
      by_cases hn0 : n = 0
      · subst hn0
        clear k4 AX1 s9 AX HX K3
        rcases Nat.lt_trichotomy 0 m with h | h | h
        · have hc := K5.out h
          subst hc
          have o1 : (0 : Int) ≤ (m : Int) := by omega
          have o2 : ¬ (m : Int) ≤ 0 := by omega
          have o3 : (0 : Int) < (m : Int) := by omega
          clear K5 K6 k1 k2 K1 K2
          go_wp2_with fail
          refine (alive_any _).mono ?_
          rintro e v5 ⟨rfl, z5⟩
          have Na := Lib.hid (Fa.out.on z5)
          have Nb := Lib.hid (Fb.out.on z5)
          have Nsu := Lib.hid (Fsu.out.on z5)
          have NB := Lib.hid (bel_tr BW.out z5)
          clear BW z5 Fa Fb Fsu
          have Fa := Na
          have Fb := Nb
          have Fsu := Nsu
          have BW := NB
          clear NB Na Nb Nsu
          have Lsu := Fsu.out.lt
          have csu0 : v5.cell? ⟨gsu, 0, none⟩ = some (.int .u64 (wd S 0 : Nat)) := Fsu.out.cell 0
          have csu1 : v5.cell? ⟨gsu, 1, none⟩ = some (.int .u64 (wd S 1 : Nat)) := Fsu.out.cell 1
          have csu2 : v5.cell? ⟨gsu, 2, none⟩ = some (.int .u64 (wd S 2 : Nat)) := Fsu.out.cell 2
          have csu3 : v5.cell? ⟨gsu, 3, none⟩ = some (.int .u64 (wd S 3 : Nat)) := Fsu.out.cell 3
          have La := Fa.out.lt
          have ca0 : v5.cell? ⟨ga, 0, none⟩ = some (.int .u64 (wd S 0 : Nat)) := Fa.out.cell 0
          have ca1 : v5.cell? ⟨ga, 1, none⟩ = some (.int .u64 (wd S 1 : Nat)) := Fa.out.cell 1
          have ca2 : v5.cell? ⟨ga, 2, none⟩ = some (.int .u64 (wd S 2 : Nat)) := Fa.out.cell 2
          have ca3 : v5.cell? ⟨ga, 3, none⟩ = some (.int .u64 (wd S 3 : Nat)) := Fa.out.cell 3
          have Lb := Fb.out.lt
          have cb0 : v5.cell? ⟨gb, 0, none⟩ = some (.int .u64 (wd Y 0 : Nat)) := Fb.out.cell 0
          have cb1 : v5.cell? ⟨gb, 1, none⟩ = some (.int .u64 (wd Y 1 : Nat)) := Fb.out.cell 1
          have cb2 : v5.cell? ⟨gb, 2, none⟩ = some (.int .u64 (wd Y 2 : Nat)) := Fb.out.cell 2
          have cb3 : v5.cell? ⟨gb, 3, none⟩ = some (.int .u64 (wd Y 3 : Nat)) := Fb.out.cell 3
          go_wp2_with fail
          clear Lsu csu0 csu1 csu2 csu3 La ca0 ca1 ca2 ca3 Lb cb0 cb1 cb2 cb3
          refine (A3.out _).mono ?_
          rintro e v6 ⟨rfl, z6⟩
          have Na := Lib.hid (Fa.out.on z6)
          have Nb := Lib.hid (Fb.out.on z6)
          have Nsu := Lib.hid (Fsu.out.on z6)
          have NB := Lib.hid (bel_tr BW.out z6)
          clear BW z6 Fa Fb Fsu
          have Fa := Na
          have Fb := Nb
          have Fsu := Nsu
          have BW := NB
          clear NB Na Nb Nsu
          go_wp2
          go_ret
          exact ⟨rfl, BW.out⟩
        · subst h
          clear K5 K6 k1 k2 K1 K2
          go_wp2_with fail
          refine (alive_any _).mono ?_
          rintro e v5 ⟨rfl, z5⟩
          have Na := Lib.hid (Fa.out.on z5)
          have Nb := Lib.hid (Fb.out.on z5)
          have Nsu := Lib.hid (Fsu.out.on z5)
          have NB := Lib.hid (bel_tr BW.out z5)
          clear BW z5 Fa Fb Fsu
          have Fa := Na
          have Fb := Nb
          have Fsu := Nsu
          have BW := NB
          clear NB Na Nb Nsu
          have Lsu := Fsu.out.lt
          have csu0 : v5.cell? ⟨gsu, 0, none⟩ = some (.int .u64 (wd S 0 : Nat)) := Fsu.out.cell 0
          have csu1 : v5.cell? ⟨gsu, 1, none⟩ = some (.int .u64 (wd S 1 : Nat)) := Fsu.out.cell 1
          have csu2 : v5.cell? ⟨gsu, 2, none⟩ = some (.int .u64 (wd S 2 : Nat)) := Fsu.out.cell 2
          have csu3 : v5.cell? ⟨gsu, 3, none⟩ = some (.int .u64 (wd S 3 : Nat)) := Fsu.out.cell 3
          have La := Fa.out.lt
          have ca0 : v5.cell? ⟨ga, 0, none⟩ = some (.int .u64 (wd S 0 : Nat)) := Fa.out.cell 0
          have ca1 : v5.cell? ⟨ga, 1, none⟩ = some (.int .u64 (wd S 1 : Nat)) := Fa.out.cell 1
          have ca2 : v5.cell? ⟨ga, 2, none⟩ = some (.int .u64 (wd S 2 : Nat)) := Fa.out.cell 2
          have ca3 : v5.cell? ⟨ga, 3, none⟩ = some (.int .u64 (wd S 3 : Nat)) := Fa.out.cell 3
          go_wp2
          go_ret
          exact ⟨rfl, BW.out⟩
        · omega
      · have h4 := k4 hn0
        rw [h4] at AX1
        have s8 : ((n - 1 : Nat) : Int) = (n : Int) - 1 := by omega
        rw [s8] at AX1
        have s7 : ((n : Int) == 0) = false := by simp; omega
        clear k4 h4 s8 AX HX K3
        rcases Nat.lt_trichotomy n m with h | h | h
        · have hc := K5.out h
          subst hc
          have o1 : ((n : Int) : Int) ≤ (m : Int) := by omega
          have o2 : ¬ (m : Int) ≤ (n : Int) := by omega
          have o3 : ((n : Int) : Int) < (m : Int) := by omega
          clear K5 K6 k1 k2 K1 K2
          go_wp2_with fail
          refine (alive_any _).mono ?_
          rintro e v5 ⟨rfl, z5⟩
          have Na := Lib.hid (Fa.out.on z5)
          have Nb := Lib.hid (Fb.out.on z5)
          have Nsu := Lib.hid (Fsu.out.on z5)
          have NB := Lib.hid (bel_tr BW.out z5)
          clear BW z5 Fa Fb Fsu
          have Fa := Na
          have Fb := Nb
          have Fsu := Nsu
          have BW := NB
          clear NB Na Nb Nsu
          have Lsu := Fsu.out.lt
          have csu0 : v5.cell? ⟨gsu, 0, none⟩ = some (.int .u64 (wd S 0 : Nat)) := Fsu.out.cell 0
          have csu1 : v5.cell? ⟨gsu, 1, none⟩ = some (.int .u64 (wd S 1 : Nat)) := Fsu.out.cell 1
          have csu2 : v5.cell? ⟨gsu, 2, none⟩ = some (.int .u64 (wd S 2 : Nat)) := Fsu.out.cell 2
          have csu3 : v5.cell? ⟨gsu, 3, none⟩ = some (.int .u64 (wd S 3 : Nat)) := Fsu.out.cell 3
          have La := Fa.out.lt
          have ca0 : v5.cell? ⟨ga, 0, none⟩ = some (.int .u64 (wd S 0 : Nat)) := Fa.out.cell 0
          have ca1 : v5.cell? ⟨ga, 1, none⟩ = some (.int .u64 (wd S 1 : Nat)) := Fa.out.cell 1
          have ca2 : v5.cell? ⟨ga, 2, none⟩ = some (.int .u64 (wd S 2 : Nat)) := Fa.out.cell 2
          have ca3 : v5.cell? ⟨ga, 3, none⟩ = some (.int .u64 (wd S 3 : Nat)) := Fa.out.cell 3
          go_wp2_with fail
          clear Lsu csu0 csu1 csu2 csu3 La ca0 ca1 ca2 ca3
          refine (AX1.out _).mono ?_
          rintro e v6 ⟨rfl, z6⟩
          have Na := Lib.hid (Fa.out.on z6)
          have Nb := Lib.hid (Fb.out.on z6)
          have Nsu := Lib.hid (Fsu.out.on z6)
          have NB := Lib.hid (bel_tr BW.out z6)
          clear BW z6 Fa Fb Fsu
          have Fa := Na
          have Fb := Nb
          have Fsu := Nsu
          have BW := NB
          clear NB Na Nb Nsu
          have La := Fa.out.lt
          have ca0 : v6.cell? ⟨ga, 0, none⟩ = some (.int .u64 (wd S 0 : Nat)) := Fa.out.cell 0
          have ca1 : v6.cell? ⟨ga, 1, none⟩ = some (.int .u64 (wd S 1 : Nat)) := Fa.out.cell 1
          have ca2 : v6.cell? ⟨ga, 2, none⟩ = some (.int .u64 (wd S 2 : Nat)) := Fa.out.cell 2
          have ca3 : v6.cell? ⟨ga, 3, none⟩ = some (.int .u64 (wd S 3 : Nat)) := Fa.out.cell 3
          have Lb := Fb.out.lt
          have cb0 : v6.cell? ⟨gb, 0, none⟩ = some (.int .u64 (wd Y 0 : Nat)) := Fb.out.cell 0
          have cb1 : v6.cell? ⟨gb, 1, none⟩ = some (.int .u64 (wd Y 1 : Nat)) := Fb.out.cell 1
          have cb2 : v6.cell? ⟨gb, 2, none⟩ = some (.int .u64 (wd Y 2 : Nat)) := Fb.out.cell 2
          have cb3 : v6.cell? ⟨gb, 3, none⟩ = some (.int .u64 (wd Y 3 : Nat)) := Fb.out.cell 3
          go_wp2_with fail
          clear La ca0 ca1 ca2 ca3 Lb cb0 cb1 cb2 cb3
          refine (A3.out _).mono ?_
          rintro e v7 ⟨rfl, z7⟩
          have Na := Lib.hid (Fa.out.on z7)
          have Nb := Lib.hid (Fb.out.on z7)
          have Nsu := Lib.hid (Fsu.out.on z7)
          have NB := Lib.hid (bel_tr BW.out z7)
          clear BW z7 Fa Fb Fsu
          have Fa := Na
          have Fb := Nb
          have Fsu := Nsu
          have BW := NB
          clear NB Na Nb Nsu
          go_wp2
          go_ret
          exact ⟨rfl, BW.out⟩
        · subst h
          clear K5 K6 k1 k2 K1 K2
          go_wp2_with fail
          refine (alive_any _).mono ?_
          rintro e v5 ⟨rfl, z5⟩
          have Na := Lib.hid (Fa.out.on z5)
          have Nb := Lib.hid (Fb.out.on z5)
          have Nsu := Lib.hid (Fsu.out.on z5)
          have NB := Lib.hid (bel_tr BW.out z5)
          clear BW z5 Fa Fb Fsu
          have Fa := Na
          have Fb := Nb
          have Fsu := Nsu
          have BW := NB
          clear NB Na Nb Nsu
          have Lsu := Fsu.out.lt
          have csu0 : v5.cell? ⟨gsu, 0, none⟩ = some (.int .u64 (wd S 0 : Nat)) := Fsu.out.cell 0
          have csu1 : v5.cell? ⟨gsu, 1, none⟩ = some (.int .u64 (wd S 1 : Nat)) := Fsu.out.cell 1
          have csu2 : v5.cell? ⟨gsu, 2, none⟩ = some (.int .u64 (wd S 2 : Nat)) := Fsu.out.cell 2
          have csu3 : v5.cell? ⟨gsu, 3, none⟩ = some (.int .u64 (wd S 3 : Nat)) := Fsu.out.cell 3
          have La := Fa.out.lt
          have ca0 : v5.cell? ⟨ga, 0, none⟩ = some (.int .u64 (wd S 0 : Nat)) := Fa.out.cell 0
          have ca1 : v5.cell? ⟨ga, 1, none⟩ = some (.int .u64 (wd S 1 : Nat)) := Fa.out.cell 1
          have ca2 : v5.cell? ⟨ga, 2, none⟩ = some (.int .u64 (wd S 2 : Nat)) := Fa.out.cell 2
          have ca3 : v5.cell? ⟨ga, 3, none⟩ = some (.int .u64 (wd S 3 : Nat)) := Fa.out.cell 3
          go_wp2_with fail
          clear Lsu csu0 csu1 csu2 csu3 La ca0 ca1 ca2 ca3
          refine (AX1.out _).mono ?_
          rintro e v6 ⟨rfl, z6⟩
          have Na := Lib.hid (Fa.out.on z6)
          have Nb := Lib.hid (Fb.out.on z6)
          have Nsu := Lib.hid (Fsu.out.on z6)
          have NB := Lib.hid (bel_tr BW.out z6)
          clear BW z6 Fa Fb Fsu
          have Fa := Na
          have Fb := Nb
          have Fsu := Nsu
          have BW := NB
          clear NB Na Nb Nsu
          go_wp2
          go_ret
          exact ⟨rfl, BW.out⟩
        · have hc := K6.out h
          subst hc
          have o1 : (m : Int) ≤ (n : Int) := by omega
          have o2 : ¬ ((n : Int) : Int) ≤ (m : Int) := by omega
          have o3 : (m : Int) < (n : Int) := by omega
          clear K5 K6 k1 k2 K1 K2
          go_wp2_with fail
          refine (alive_any _).mono ?_
          rintro e v5 ⟨rfl, z5⟩
          have Na := Lib.hid (Fa.out.on z5)
          have Nb := Lib.hid (Fb.out.on z5)
          have Nsu := Lib.hid (Fsu.out.on z5)
          have NB := Lib.hid (bel_tr BW.out z5)
          clear BW z5 Fa Fb Fsu
          have Fa := Na
          have Fb := Nb
          have Fsu := Nsu
          have BW := NB
          clear NB Na Nb Nsu
          have Lsu := Fsu.out.lt
          have csu0 : v5.cell? ⟨gsu, 0, none⟩ = some (.int .u64 (wd S 0 : Nat)) := Fsu.out.cell 0
          have csu1 : v5.cell? ⟨gsu, 1, none⟩ = some (.int .u64 (wd S 1 : Nat)) := Fsu.out.cell 1
          have csu2 : v5.cell? ⟨gsu, 2, none⟩ = some (.int .u64 (wd S 2 : Nat)) := Fsu.out.cell 2
          have csu3 : v5.cell? ⟨gsu, 3, none⟩ = some (.int .u64 (wd S 3 : Nat)) := Fsu.out.cell 3
          have La := Fa.out.lt
          have ca0 : v5.cell? ⟨ga, 0, none⟩ = some (.int .u64 (wd S 0 : Nat)) := Fa.out.cell 0
          have ca1 : v5.cell? ⟨ga, 1, none⟩ = some (.int .u64 (wd S 1 : Nat)) := Fa.out.cell 1
          have ca2 : v5.cell? ⟨ga, 2, none⟩ = some (.int .u64 (wd S 2 : Nat)) := Fa.out.cell 2
          have ca3 : v5.cell? ⟨ga, 3, none⟩ = some (.int .u64 (wd S 3 : Nat)) := Fa.out.cell 3
          go_wp2_with fail
          clear Lsu csu0 csu1 csu2 csu3 La ca0 ca1 ca2 ca3
          refine (AX1.out _).mono ?_
          rintro e v6 ⟨rfl, z6⟩
          have Na := Lib.hid (Fa.out.on z6)
          have Nb := Lib.hid (Fb.out.on z6)
          have Nsu := Lib.hid (Fsu.out.on z6)
          have NB := Lib.hid (bel_tr BW.out z6)
          clear BW z6 Fa Fb Fsu
          have Fa := Na
          have Fb := Nb
          have Fsu := Nsu
          have BW := NB
          clear NB Na Nb Nsu
          have La := Fa.out.lt
          have ca0 : v6.cell? ⟨ga, 0, none⟩ = some (.int .u64 (wd S 0 : Nat)) := Fa.out.cell 0
          have ca1 : v6.cell? ⟨ga, 1, none⟩ = some (.int .u64 (wd S 1 : Nat)) := Fa.out.cell 1
          have ca2 : v6.cell? ⟨ga, 2, none⟩ = some (.int .u64 (wd S 2 : Nat)) := Fa.out.cell 2
          have ca3 : v6.cell? ⟨ga, 3, none⟩ = some (.int .u64 (wd S 3 : Nat)) := Fa.out.cell 3
          have Lb := Fb.out.lt
          have cb0 : v6.cell? ⟨gb, 0, none⟩ = some (.int .u64 (wd Y 0 : Nat)) := Fb.out.cell 0
          have cb1 : v6.cell? ⟨gb, 1, none⟩ = some (.int .u64 (wd Y 1 : Nat)) := Fb.out.cell 1
          have cb2 : v6.cell? ⟨gb, 2, none⟩ = some (.int .u64 (wd Y 2 : Nat)) := Fb.out.cell 2
          have cb3 : v6.cell? ⟨gb, 3, none⟩ = some (.int .u64 (wd Y 3 : Nat)) := Fb.out.cell 3
          go_wp2_with fail
          clear La ca0 ca1 ca2 ca3 Lb cb0 cb1 cb2 cb3
          refine (A3.out _).mono ?_
          rintro e v7 ⟨rfl, z7⟩
          have Na := Lib.hid (Fa.out.on z7)
          have Nb := Lib.hid (Fb.out.on z7)
          have Nsu := Lib.hid (Fsu.out.on z7)
          have NB := Lib.hid (bel_tr BW.out z7)
          clear BW z7 Fa Fb Fsu
          have Fa := Na
          have Fb := Nb
          have Fsu := Nsu
          have BW := NB
          clear NB Na Nb Nsu
          go_wp2
          go_ret
          exact ⟨rfl, BW.out⟩
end Go.Proofs.Ytamglpncdgiocaa
