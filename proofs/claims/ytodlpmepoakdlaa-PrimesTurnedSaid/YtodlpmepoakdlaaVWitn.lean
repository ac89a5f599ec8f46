/-
  primes.witnessed: whether the powers of the witness tell that a number is prime.
-/
import Derived.Deep.Cut
import Derived.Test.YtodlpmepoakdlaaVGCore
import Derived.Test.YtodlpmepoakdlaaVMod11
import Derived.Test.YtodlpmepoakdlaaVPowIn
import Derived.Test.YtodlpmepoakdlaaVSmall
namespace Go.Proofs.Ytodlpmepoakdlaa
set_option maxRecDepth 100000
open Go.RowKit
set_option linter.unusedSimpArgs false
set_option linter.unusedVariables false
attribute [local go_sem ↓] Go.wp_at_zero Go.wp_at_succ

theorem cmpN_le0 {X Y : Nat} (h : X ≤ Y) : cmpN X Y ≤ 0 := by unfold cmpN; split <;> (try split) <;> omega
theorem cmpN_pos0 {X Y : Nat} (h : Y < X) : ¬ cmpN X Y ≤ 0 := by rw [cmpN_gt h]; decide
theorem cmpN_ge0 {X Y : Nat} (h : Y ≤ X) : 0 ≤ cmpN X Y := by unfold cmpN; split <;> (try split) <;> omega
theorem cmpN_lt0 {X Y : Nat} (h : X < Y) : ¬ 0 ≤ cmpN X Y := by rw [cmpN_lt h]; decide
/-- what is asked of a part's number, for a witness -/
def witQ (N Y q : Nat) : Bool := decide (Nat.gcd ((Y ^ ((N - 1) / q) % N + N - 1) % N) N = 1)
/-- what witnessed tells -/
def witB (N Y : Nat) (qs : List Nat) : Bool := decide (1 < Y) && decide (Y < N) && decide (Y ^ (N - 1) % N = 1) && qs.all (witQ N Y)
/-- the nine cells of the i-th part -/
theorem Sl.cells {w : World} {a : Option Addr} {cap : Nat} {ps : List Pr.Rsn} (h : Sl w a cap ps) {i : Nat} (hi : i < ps.length) : ∃ g off a' cap' q y l', a = some ⟨g, off, none⟩ ∧ (ps[i]).n = q ∧ (ps[i]).w = y ∧ (ps[i]).ps.length = l' ∧ q < 2 ^ 256 ∧ y < 2 ^ 256 ∧ Sl w a' cap' (ps[i]).ps ∧
    w.cell? ⟨g, off + i * 9, none⟩ = some (.int .u64 (wd q 0 : Nat)) ∧ w.cell? ⟨g, off + i * 9 + 1, none⟩ = some (.int .u64 (wd q 1 : Nat)) ∧ w.cell? ⟨g, off + i * 9 + 2, none⟩ = some (.int .u64 (wd q 2 : Nat)) ∧ w.cell? ⟨g, off + i * 9 + 3, none⟩ = some (.int .u64 (wd q 3 : Nat)) ∧
    w.cell? ⟨g, off + i * 9 + 4, none⟩ = some (.int .u64 (wd y 0 : Nat)) ∧ w.cell? ⟨g, off + i * 9 + 5, none⟩ = some (.int .u64 (wd y 1 : Nat)) ∧ w.cell? ⟨g, off + i * 9 + 6, none⟩ = some (.int .u64 (wd y 2 : Nat)) ∧ w.cell? ⟨g, off + i * 9 + 7, none⟩ = some (.int .u64 (wd y 3 : Nat)) ∧
    w.cell? ⟨g, off + i * 9 + 8, none⟩ = some (.slice a' l' cap') := by
  obtain ⟨g, off, ha, hr⟩ := h.get hi
  obtain ⟨⟨hn, h1⟩, ⟨hy, h2⟩, a', cap', hc, hs⟩ := rsAt_iff.mp hr
  rw [Nat.mul_comm 9 i] at *
  refine ⟨g, off, a', cap', _, _, _, ha, rfl, rfl, rfl, hn, hy, hs, by simpa using h1 0 (by omega), h1 1 (by omega), h1 2 (by omega), h1 3 (by omega), by simpa using h2 0 (by omega), ?_, ?_, ?_, hc⟩
  · have := h2 1 (by omega); rw [Nat.add_assoc (off + i * 9)] at this; exact this
  · have := h2 2 (by omega); rw [Nat.add_assoc (off + i * 9)] at this; exact this
  · have := h2 3 (by omega); rw [Nat.add_assoc (off + i * 9)] at this; exact this
theorem witB_all {N Y : Nat} {ps : List Pr.Rsn} (h1 : 1 < Y) (h2 : Y < N) (h3 : Y ^ (N - 1) % N = 1) (h : ∀ j (hj : j < ps.length), witQ N Y (ps[j]).n = true) : witB N Y (ps.map Pr.Rsn.n) = true := by
  simp only [witB, h1, h2, h3, decide_true, Bool.true_and, List.all_eq_true]
  intro q hq
  obtain ⟨p, hp, rfl⟩ := List.mem_map.mp hq
  obtain ⟨j, hj, rfl⟩ := List.getElem_of_mem hp
  exact h j hj
theorem witB_no {N Y i q : Nat} {ps : List Pr.Rsn} (hx : ∃ hi : i < ps.length, (ps[i]).n = q) (h : witQ N Y q = false) : witB N Y (ps.map Pr.Rsn.n) = false := by
  obtain ⟨hi, rfl⟩ := hx
  rcases hb : witB N Y (ps.map Pr.Rsn.n) with _ | _
  · rfl
  · simp only [witB, Bool.and_eq_true, List.all_eq_true] at hb
    have := hb.2 (ps[i]).n (List.mem_map.mpr ⟨_, List.getElem_mem hi, rfl⟩)
    rw [h] at this; cases this

set_option maxRecDepth 100000 in
set_option maxHeartbeats 8000000 in
theorem witnessed_any (N Y M : Nat) (a : Option Addr) (cap : Nat) (ps : List Pr.Rsn) (hN : N < 2 ^ 256) (hN1 : 1 < N) (hY : Y < 2 ^ 256) (hM : M = N - 1) (hq : ∀ p ∈ ps, p.n ≠ 0)
    (w : World) (hs : Sl w a cap ps) : Calls Try.prog 52 #[rv N Y (.slice a ps.length cap), num M] w fun e w' => e = .returned (.bool (witB N Y (ps.map Pr.Rsn.n))) ∧ Below w.heap.size w w' := by
  obtain ⟨l, hl⟩ : ∃ l, ps.length = l := ⟨_, rfl⟩
  obtain ⟨V, hV⟩ : ∃ V, V = witB N Y (ps.map Pr.Rsn.n) := ⟨_, rfl⟩
  rw [← hV, hl]
  have HO := Lib.hid (fun w => of_any 1 (by decide) w)
  have HK1 := Lib.hid (fun w => cmp_any Y 1 hY (by decide) w)
  have HK2 := Lib.hid (fun w => cmp_any Y N hY hN w)
  have HN := Lib.hid hN; have HN1 := Lib.hid hN1; have HY := Lib.hid hY; have HM := Lib.hid hM; have HQ := Lib.hid hq; have HS := Lib.hid hs; have HL := Lib.hid hl; have HV := Lib.hid hV
  have hlc : l ≤ 9223372036854775807 := by rw [← hl]; exact Nat.le_trans hs.1 hs.2.1
  have HLC := Lib.hid hlc
  clear hN hN1 hY hM hq hs hl hV hlc
  go_enter Try.func52, Try.ntmps52
  go_wp2_with fail
  have BW := Lib.hid (Below.refl w.heap.size w)
  have Em : w.heap.size ≤ w.heap.size + 1 := by have := BW.out.size; omega
  have Drm : w.heap.size ≠ w.heap.size + 1 := by omega
  generalize hW1 : ((w.alloc (.cells #[.int .u64 (wd N 0 : Nat), .int .u64 (wd N 1 : Nat), .int .u64 (wd N 2 : Nat), .int .u64 (wd N 3 : Nat), .int .u64 (wd Y 0 : Nat), .int .u64 (wd Y 1 : Nat), .int .u64 (wd Y 2 : Nat), .int .u64 (wd Y 3 : Nat), .slice a l cap] 27)).alloc (.cells #[.int .u64 (wd M 0 : Nat), .int .u64 (wd M 1 : Nat), .int .u64 (wd M 2 : Nat), .int .u64 (wd M 3 : Nat)] 24)) = W1 at *
  have Nr : At W1 (w.heap.size) _ _ := at_of hW1 ((At.at_ _ _ _ _ (by simp)).alloc _)
  have Nm : At W1 (w.heap.size + 1) _ _ := at_of hW1 (At.at_ _ _ _ _ (by simp))
  have NB := gr_of hW1 (gr_alloc (gr_alloc BW.out _) _)
  clear hW1 BW 
  generalize w.heap.size + 1 = gm at *
  obtain ⟨gr, hg0⟩ : ∃ g, g = w.heap.size := ⟨_, rfl⟩
  rw [← hg0] at Nr ⊢
  rw [← hg0] at Drm
  have Er : w.heap.size ≤ gr := by omega
  clear hg0
  have Fr := Lib.hid Nr
  have Fm := Lib.hid Nm
  have BW := Lib.hid NB
  clear NB Nr Nm
  refine (HO.out _).mono ?_
  rintro e v2 ⟨rfl, z2⟩
  have Nr := Lib.hid (Fr.out.on z2)
  have Nm := Lib.hid (Fm.out.on z2)
  have NB := Lib.hid (bel_tr BW.out z2)
  clear BW z2 Fr Fm
  have Fr := Nr
  have Fm := Nm
  have BW := NB
  clear NB Nr Nm
  go_upto_region 2 with fail
  have Eo : w.heap.size ≤ v2.heap.size := by have := BW.out.size; omega
  have Dro : gr ≠ v2.heap.size := by have := Fr.out.lt; omega
  have Dmo : gm ≠ v2.heap.size := by have := Fm.out.lt; omega
  generalize hW3 : (v2.alloc (.cells #[.int .u64 (wd 1 0 : Nat), .int .u64 (wd 1 1 : Nat), .int .u64 (wd 1 2 : Nat), .int .u64 (wd 1 3 : Nat)] 24)) = W3 at *
  have No : At W3 (v2.heap.size) _ _ := at_of hW3 (At.at_ _ _ _ _ (by simp))
  have Nr := at_of hW3 (Fr.out.alloc _)
  have Nm := at_of hW3 (Fm.out.alloc _)
  have NB := gr_of hW3 (gr_alloc BW.out _)
  clear hW3 BW Fr Fm
  generalize v2.heap.size = go at *
  have Fr := Lib.hid Nr
  have Fm := Lib.hid Nm
  have Fo := Lib.hid No
  have BW := Lib.hid NB
  clear NB Nr Nm No
  by_cases h1 : 1 < Y
  · have hk := cmpN_pos0 h1
    have HK := Lib.hid HK1.out
    have HH1 := Lib.hid h1
    clear h1 HK1
    generalize cmpN Y 1 = k at *
    have Lr := Fr.out.lt
    have cr0 : W3.cell? ⟨gr, 0, none⟩ = some (.int .u64 (wd N 0 : Nat)) := Fr.out.cell 0
    have cr1 : W3.cell? ⟨gr, 1, none⟩ = some (.int .u64 (wd N 1 : Nat)) := Fr.out.cell 1
    have cr2 : W3.cell? ⟨gr, 2, none⟩ = some (.int .u64 (wd N 2 : Nat)) := Fr.out.cell 2
    have cr3 : W3.cell? ⟨gr, 3, none⟩ = some (.int .u64 (wd N 3 : Nat)) := Fr.out.cell 3
    have cr4 : W3.cell? ⟨gr, 4, none⟩ = some (.int .u64 (wd Y 0 : Nat)) := Fr.out.cell 4
    have cr5 : W3.cell? ⟨gr, 5, none⟩ = some (.int .u64 (wd Y 1 : Nat)) := Fr.out.cell 5
    have cr6 : W3.cell? ⟨gr, 6, none⟩ = some (.int .u64 (wd Y 2 : Nat)) := Fr.out.cell 6
    have cr7 : W3.cell? ⟨gr, 7, none⟩ = some (.int .u64 (wd Y 3 : Nat)) := Fr.out.cell 7
    have cr8 : W3.cell? ⟨gr, 8, none⟩ = some (.slice a l cap) := Fr.out.cell 8
    have Lo := Fo.out.lt
    have co0 := Fo.out.c0
    have co1 := Fo.out.c1
    have co2 := Fo.out.c2
    have co3 := Fo.out.c3
    go_wp2_with fail
    clear Lr cr0 cr1 cr2 cr3 cr4 cr5 cr6 cr7 cr8 Lo co0 co1 co2 co3
    refine (HK.out _).mono ?_
    rintro e v4 ⟨rfl, z4⟩
    have Nr := Lib.hid (Fr.out.on z4)
    have Nm := Lib.hid (Fm.out.on z4)
    have No := Lib.hid (Fo.out.on z4)
    have NB := Lib.hid (bel_tr BW.out z4)
    clear BW z4 Fr Fm Fo
    have Fr := Nr
    have Fm := Nm
    have Fo := No
    have BW := NB
    clear NB Nr Nm No
    have Lr := Fr.out.lt
    have cr0 : v4.cell? ⟨gr, 0, none⟩ = some (.int .u64 (wd N 0 : Nat)) := Fr.out.cell 0
    have cr1 : v4.cell? ⟨gr, 1, none⟩ = some (.int .u64 (wd N 1 : Nat)) := Fr.out.cell 1
    have cr2 : v4.cell? ⟨gr, 2, none⟩ = some (.int .u64 (wd N 2 : Nat)) := Fr.out.cell 2
    have cr3 : v4.cell? ⟨gr, 3, none⟩ = some (.int .u64 (wd N 3 : Nat)) := Fr.out.cell 3
    have cr4 : v4.cell? ⟨gr, 4, none⟩ = some (.int .u64 (wd Y 0 : Nat)) := Fr.out.cell 4
    have cr5 : v4.cell? ⟨gr, 5, none⟩ = some (.int .u64 (wd Y 1 : Nat)) := Fr.out.cell 5
    have cr6 : v4.cell? ⟨gr, 6, none⟩ = some (.int .u64 (wd Y 2 : Nat)) := Fr.out.cell 6
    have cr7 : v4.cell? ⟨gr, 7, none⟩ = some (.int .u64 (wd Y 3 : Nat)) := Fr.out.cell 7
    have cr8 : v4.cell? ⟨gr, 8, none⟩ = some (.slice a l cap) := Fr.out.cell 8
    go_wp2_with fail
    clear Lr cr0 cr1 cr2 cr3 cr4 cr5 cr6 cr7 cr8
    by_cases h2 : Y < N
    · have hk2 := cmpN_lt0 h2
      have HKK := Lib.hid HK2.out
      have HH2 := Lib.hid h2
      have HEX := Lib.hid (fun e (he : e < 2 ^ 256) => mexp_yes Y e N HN.out he HN1.out h2)
      clear h2 HK2
      generalize cmpN Y N = k2 at *
      refine (HKK.out _).mono ?_
      rintro e v5 ⟨rfl, z5⟩
      have Nr := Lib.hid (Fr.out.on z5)
      have Nm := Lib.hid (Fm.out.on z5)
      have No := Lib.hid (Fo.out.on z5)
      have NB := Lib.hid (bel_tr BW.out z5)
      clear BW z5 Fr Fm Fo
      have Fr := Nr
      have Fm := Nm
      have Fo := No
      have BW := NB
      clear NB Nr Nm No
      go_upto_region 4 with fail
      have Lr := Fr.out.lt
      have cr0 : v5.cell? ⟨gr, 0, none⟩ = some (.int .u64 (wd N 0 : Nat)) := Fr.out.cell 0
      have cr1 : v5.cell? ⟨gr, 1, none⟩ = some (.int .u64 (wd N 1 : Nat)) := Fr.out.cell 1
      have cr2 : v5.cell? ⟨gr, 2, none⟩ = some (.int .u64 (wd N 2 : Nat)) := Fr.out.cell 2
      have cr3 : v5.cell? ⟨gr, 3, none⟩ = some (.int .u64 (wd N 3 : Nat)) := Fr.out.cell 3
      have cr4 : v5.cell? ⟨gr, 4, none⟩ = some (.int .u64 (wd Y 0 : Nat)) := Fr.out.cell 4
      have cr5 : v5.cell? ⟨gr, 5, none⟩ = some (.int .u64 (wd Y 1 : Nat)) := Fr.out.cell 5
      have cr6 : v5.cell? ⟨gr, 6, none⟩ = some (.int .u64 (wd Y 2 : Nat)) := Fr.out.cell 6
      have cr7 : v5.cell? ⟨gr, 7, none⟩ = some (.int .u64 (wd Y 3 : Nat)) := Fr.out.cell 7
      have cr8 : v5.cell? ⟨gr, 8, none⟩ = some (.slice a l cap) := Fr.out.cell 8
      have Lm := Fm.out.lt
      have cm0 := Fm.out.c0
      have cm1 := Fm.out.c1
      have cm2 := Fm.out.c2
      have cm3 := Fm.out.c3
      go_wp2_with fail
      clear Lr cr0 cr1 cr2 cr3 cr4 cr5 cr6 cr7 cr8 Lm cm0 cm1 cm2 cm3
      obtain ⟨X, hX⟩ : ∃ X, X = Y ^ M % N := ⟨_, rfl⟩
      have CE := HEX.out M (by have := HM.out; have := HN.out; omega)
      rw [← hX] at CE
      have HCE := Lib.hid CE; have HX := Lib.hid hX
      clear CE hX
      refine (HCE.out _).mono ?_
      rintro e v6 ⟨rfl, z6⟩
      have Nr := Lib.hid (Fr.out.on z6)
      have Nm := Lib.hid (Fm.out.on z6)
      have No := Lib.hid (Fo.out.on z6)
      have NB := Lib.hid (bel_tr BW.out z6)
      clear BW z6 Fr Fm Fo
      have Fr := Nr
      have Fm := Nm
      have Fo := No
      have BW := NB
      clear NB Nr Nm No
      go_upto_region 5 with fail
      have Drx : gr ≠ v6.heap.size := by have := Fr.out.lt; omega
      have Dmx : gm ≠ v6.heap.size := by have := Fm.out.lt; omega
      have Dox : go ≠ v6.heap.size := by have := Fo.out.lt; omega
      generalize hW7 : (v6.alloc (.cells #[.int .u64 (wd X 0 : Nat), .int .u64 (wd X 1 : Nat), .int .u64 (wd X 2 : Nat), .int .u64 (wd X 3 : Nat)] 24)) = W7 at *
      have Nx : At W7 (v6.heap.size) _ _ := at_of hW7 (At.at_ _ _ _ _ (by simp))
      have Nr := at_of hW7 (Fr.out.alloc _)
      have Nm := at_of hW7 (Fm.out.alloc _)
      have No := at_of hW7 (Fo.out.alloc _)
      have NB := gr_of hW7 (gr_alloc BW.out _)
      clear hW7 BW Fr Fm Fo
      generalize v6.heap.size = gx at *
      have Fr := Lib.hid Nr
      have Fm := Lib.hid Nm
      have Fo := Lib.hid No
      have Fx := Lib.hid Nx
      have BW := Lib.hid NB
      clear NB Nr Nm No Nx
      have eqx := eqN X 1 (by rw [HX.out]; exact Nat.lt_trans (Nat.mod_lt _ (by have := HN1.out; omega)) HN.out) (by decide)
      by_cases h3 : X = 1
      · rw [decide_eq_true h3] at eqx
        have HH3 := Lib.hid h3
        clear h3
        have Lx := Fx.out.lt
        have cx0 := Fx.out.c0
        have cx1 := Fx.out.c1
        have cx2 := Fx.out.c2
        have cx3 := Fx.out.c3
        have Lo := Fo.out.lt
        have co0 := Fo.out.c0
        have co1 := Fo.out.c1
        have co2 := Fo.out.c2
        have co3 := Fo.out.c3
        go_upto_region 7 with fail
        clear Lx cx0 cx1 cx2 cx3 Lo co0 co1 co2 co3
        clear eqx
        have Lr := Fr.out.lt
        have cr0 : W7.cell? ⟨gr, 0, none⟩ = some (.int .u64 (wd N 0 : Nat)) := Fr.out.cell 0
        have cr1 : W7.cell? ⟨gr, 1, none⟩ = some (.int .u64 (wd N 1 : Nat)) := Fr.out.cell 1
        have cr2 : W7.cell? ⟨gr, 2, none⟩ = some (.int .u64 (wd N 2 : Nat)) := Fr.out.cell 2
        have cr3 : W7.cell? ⟨gr, 3, none⟩ = some (.int .u64 (wd N 3 : Nat)) := Fr.out.cell 3
        have cr4 : W7.cell? ⟨gr, 4, none⟩ = some (.int .u64 (wd Y 0 : Nat)) := Fr.out.cell 4
        have cr5 : W7.cell? ⟨gr, 5, none⟩ = some (.int .u64 (wd Y 1 : Nat)) := Fr.out.cell 5
        have cr6 : W7.cell? ⟨gr, 6, none⟩ = some (.int .u64 (wd Y 2 : Nat)) := Fr.out.cell 6
        have cr7 : W7.cell? ⟨gr, 7, none⟩ = some (.int .u64 (wd Y 3 : Nat)) := Fr.out.cell 7
        have cr8 : W7.cell? ⟨gr, 8, none⟩ = some (.slice a l cap) := Fr.out.cell 8
        go_wp2_with fail
        clear Lr cr0 cr1 cr2 cr3 cr4 cr5 cr6 cr7 cr8
        go_loopw [46] (fun s wr => ∃ i : Nat, i ≤ l ∧ s = .int .i64 (i : Nat) ∧ Hid (At wr gr 27 #[.int .u64 (wd N 0 : Nat), .int .u64 (wd N 1 : Nat), .int .u64 (wd N 2 : Nat), .int .u64 (wd N 3 : Nat), .int .u64 (wd Y 0 : Nat), .int .u64 (wd Y 1 : Nat), .int .u64 (wd Y 2 : Nat), .int .u64 (wd Y 3 : Nat), .slice a l cap] ∧ At wr gm 24 #[.int .u64 (wd M 0 : Nat), .int .u64 (wd M 1 : Nat), .int .u64 (wd M 2 : Nat), .int .u64 (wd M 3 : Nat)] ∧ At wr go 24 #[.int .u64 (wd 1 0 : Nat), .int .u64 (wd 1 1 : Nat), .int .u64 (wd 1 2 : Nat), .int .u64 (wd 1 3 : Nat)] ∧ Below w.heap.size w wr ∧ (∀ j (hj : j < ps.length), j < i → witQ N Y (ps[j]).n = true))) (fun s _ => l - (intOf s).toNat)
        case atStart => exact ⟨0, by omega, rfl, Fr.out, Fm.out, Fo.out, BW.out, fun j _ h => absurd h (Nat.not_lt_zero _)⟩
        case round =>
          obtain ⟨i, hi, rfl, hM⟩ := hrel
          clear BW Fr Fm Fo Fx
          have Fr := Lib.hid hM.out.1
          have Fm := Lib.hid hM.out.2.1
          have Fo := Lib.hid hM.out.2.2.1
          have BW := Lib.hid hM.out.2.2.2.1
          have HJ := Lib.hid hM.out.2.2.2.2
          clear hM
          by_cases hlt : i < l
          · have hlt2 : (i : Int) < (l : Int) := by omega
            have hil : i < ps.length := by rw [HL.out]; exact hlt
            obtain ⟨gs, os, a2, cap2, q, y2, l2, ha, hq1, hq2, hq3, hqb, hyb, hs2, e0, e1, e2, e3, e4, e5, e6, e7, e8⟩ := (HS.out.on BW.out).cells hil
            subst ha
            have hq0 : q ≠ 0 := by rw [← hq1]; exact HQ.out _ (List.getElem_mem hil)
            obtain ⟨D, r, hD, hr, he, CD⟩ := div_ex M q (by have := HM.out; have := HN.out; omega) hqb hq0
            have hDq : D = M / q := by rw [he, Nat.mul_comm, Nat.mul_add_div (by omega), Nat.div_eq_of_lt hr, Nat.add_zero]
            have CE2 := HEX.out D hD
            obtain ⟨X2, hX2⟩ : ∃ X2, X2 = Y ^ D % N := ⟨_, rfl⟩
            have hN1 := HN1.out
            have hX2N : X2 < N := by rw [hX2]; exact Nat.mod_lt _ (by omega)
            have CS := msub_yes X2 1 N HN.out hN1 hX2N hN1
            obtain ⟨Z, hZ⟩ : ∃ Z, Z = (X2 + N - 1) % N := ⟨_, rfl⟩
            rw [← hX2] at CE2
            rw [← hZ] at CS
            have hZN : Z < N := by rw [hZ]; exact Nat.mod_lt _ (by omega)
            have CC := fun w => common_any Z N (Nat.lt_trans hZN HN.out) HN.out w
            obtain ⟨G, hG⟩ : ∃ G, G = Nat.gcd Z N := ⟨_, rfl⟩
            rw [← hG] at CC
            have hGN : G < 2 ^ 256 := Nat.lt_of_le_of_lt (by rw [hG]; exact Nat.gcd_le_right _ (by omega)) HN.out
            have hWQ : witQ N Y q = decide (G = 1) := by rw [hG, hZ, hX2, hDq, HM.out]; rfl
            have HCD := Lib.hid CD; have HCE2 := Lib.hid CE2; have HCS := Lib.hid CS; have HCC := Lib.hid CC; have HWQ := Lib.hid hWQ; have HIL := Lib.hid (show ∃ h : i < ps.length, (ps[i]).n = q from ⟨hil, hq1⟩); have HLT := Lib.hid hlt; have HEG := Lib.hid (eqN G 1 hGN (by decide))
            clear CD CE2 CS CC hWQ hlt hGN hG hZN hZ hX2N hX2 hN1 hDq he hr hD hq0 hs2 hyb hqb hq3 hq2 hq1 hil
            go_upto_region 10 with fail
            clear e0 e1 e2 e3 e4 e5 e6 e7 e8
            have Drp : gr ≠ wr.heap.size := by have := Fr.out.lt; omega
            have Dmp : gm ≠ wr.heap.size := by have := Fm.out.lt; omega
            have Dop : go ≠ wr.heap.size := by have := Fo.out.lt; omega
            generalize hW8 : (wr.alloc (.cells #[.int .u64 (wd q 0 : Nat), .int .u64 (wd q 1 : Nat), .int .u64 (wd q 2 : Nat), .int .u64 (wd q 3 : Nat), .int .u64 (wd y2 0 : Nat), .int .u64 (wd y2 1 : Nat), .int .u64 (wd y2 2 : Nat), .int .u64 (wd y2 3 : Nat), .slice a2 l2 cap2] 27)) = W8 at *
            have Np : At W8 (wr.heap.size) _ _ := at_of hW8 (At.at_ _ _ _ _ (by simp))
            have Nr := at_of hW8 (Fr.out.alloc _)
            have Nm := at_of hW8 (Fm.out.alloc _)
            have No := at_of hW8 (Fo.out.alloc _)
            have NB := gr_of hW8 (gr_alloc BW.out _)
            clear hW8 BW Fr Fm Fo
            generalize wr.heap.size = gp at *
            have Fr := Lib.hid Nr
            have Fm := Lib.hid Nm
            have Fo := Lib.hid No
            have Fp := Lib.hid Np
            have BW := Lib.hid NB
            clear NB Nr Nm No Np
            have Lm := Fm.out.lt
            have cm0 := Fm.out.c0
            have cm1 := Fm.out.c1
            have cm2 := Fm.out.c2
            have cm3 := Fm.out.c3
            have Lp := Fp.out.lt
            have cp0 : W8.cell? ⟨gp, 0, none⟩ = some (.int .u64 (wd q 0 : Nat)) := Fp.out.cell 0
            have cp1 : W8.cell? ⟨gp, 1, none⟩ = some (.int .u64 (wd q 1 : Nat)) := Fp.out.cell 1
            have cp2 : W8.cell? ⟨gp, 2, none⟩ = some (.int .u64 (wd q 2 : Nat)) := Fp.out.cell 2
            have cp3 : W8.cell? ⟨gp, 3, none⟩ = some (.int .u64 (wd q 3 : Nat)) := Fp.out.cell 3
            have cp4 : W8.cell? ⟨gp, 4, none⟩ = some (.int .u64 (wd y2 0 : Nat)) := Fp.out.cell 4
            have cp5 : W8.cell? ⟨gp, 5, none⟩ = some (.int .u64 (wd y2 1 : Nat)) := Fp.out.cell 5
            have cp6 : W8.cell? ⟨gp, 6, none⟩ = some (.int .u64 (wd y2 2 : Nat)) := Fp.out.cell 6
            have cp7 : W8.cell? ⟨gp, 7, none⟩ = some (.int .u64 (wd y2 3 : Nat)) := Fp.out.cell 7
            have cp8 : W8.cell? ⟨gp, 8, none⟩ = some (.slice a2 l2 cap2) := Fp.out.cell 8
            go_wp2_with fail
            clear Lm cm0 cm1 cm2 cm3 Lp cp0 cp1 cp2 cp3 cp4 cp5 cp6 cp7 cp8
            refine (HCD.out _).mono ?_
            rintro e v9 ⟨rfl, z9⟩
            have Nr := Lib.hid (Fr.out.on z9)
            have Nm := Lib.hid (Fm.out.on z9)
            have No := Lib.hid (Fo.out.on z9)
            have Np := Lib.hid (Fp.out.on z9)
            have NB := Lib.hid (bel_tr BW.out z9)
            clear BW z9 Fr Fm Fo Fp
            have Fr := Nr
            have Fm := Nm
            have Fo := No
            have Fp := Np
            have BW := NB
            clear NB Nr Nm No Np
            go_upto_region 11 with fail
            have Drd : gr ≠ v9.heap.size := by have := Fr.out.lt; omega
            have Dmd : gm ≠ v9.heap.size := by have := Fm.out.lt; omega
            have Dod : go ≠ v9.heap.size := by have := Fo.out.lt; omega
            have Dru : gr ≠ v9.heap.size + 1 := by have := Fr.out.lt; omega
            have Dmu : gm ≠ v9.heap.size + 1 := by have := Fm.out.lt; omega
            have Dou : go ≠ v9.heap.size + 1 := by have := Fo.out.lt; omega
            generalize hW10 : ((v9.alloc (.cells #[.int .u64 (wd D 0 : Nat), .int .u64 (wd D 1 : Nat), .int .u64 (wd D 2 : Nat), .int .u64 (wd D 3 : Nat)] 24)).alloc (.cells #[.int .u64 (wd r 0 : Nat), .int .u64 (wd r 1 : Nat), .int .u64 (wd r 2 : Nat), .int .u64 (wd r 3 : Nat)] 24)) = W10 at *
            have Nd : At W10 (v9.heap.size) _ _ := at_of hW10 ((At.at_ _ _ _ _ (by simp)).alloc _)
            have Nu : At W10 (v9.heap.size + 1) _ _ := at_of hW10 (At.at_ _ _ _ _ (by simp))
            have Nr := at_of hW10 ((Fr.out.alloc _).alloc _)
            have Nm := at_of hW10 ((Fm.out.alloc _).alloc _)
            have No := at_of hW10 ((Fo.out.alloc _).alloc _)
            have Np := at_of hW10 ((Fp.out.alloc _).alloc _)
            have NB := gr_of hW10 (gr_alloc (gr_alloc BW.out _) _)
            clear hW10 BW Fr Fm Fo Fp
            generalize v9.heap.size + 1 = gu at *
            generalize v9.heap.size = gd at *
            have Fr := Lib.hid Nr
            have Fm := Lib.hid Nm
            have Fo := Lib.hid No
            have Fp := Lib.hid Np
            have Fd := Lib.hid Nd
            have Fu := Lib.hid Nu
            have BW := Lib.hid NB
            clear NB Nr Nm No Np Nd Nu
            have Lr := Fr.out.lt
            have cr0 : W10.cell? ⟨gr, 0, none⟩ = some (.int .u64 (wd N 0 : Nat)) := Fr.out.cell 0
            have cr1 : W10.cell? ⟨gr, 1, none⟩ = some (.int .u64 (wd N 1 : Nat)) := Fr.out.cell 1
            have cr2 : W10.cell? ⟨gr, 2, none⟩ = some (.int .u64 (wd N 2 : Nat)) := Fr.out.cell 2
            have cr3 : W10.cell? ⟨gr, 3, none⟩ = some (.int .u64 (wd N 3 : Nat)) := Fr.out.cell 3
            have cr4 : W10.cell? ⟨gr, 4, none⟩ = some (.int .u64 (wd Y 0 : Nat)) := Fr.out.cell 4
            have cr5 : W10.cell? ⟨gr, 5, none⟩ = some (.int .u64 (wd Y 1 : Nat)) := Fr.out.cell 5
            have cr6 : W10.cell? ⟨gr, 6, none⟩ = some (.int .u64 (wd Y 2 : Nat)) := Fr.out.cell 6
            have cr7 : W10.cell? ⟨gr, 7, none⟩ = some (.int .u64 (wd Y 3 : Nat)) := Fr.out.cell 7
            have cr8 : W10.cell? ⟨gr, 8, none⟩ = some (.slice (some ⟨gs, os, none⟩) l cap) := Fr.out.cell 8
            have Ld := Fd.out.lt
            have cd0 := Fd.out.c0
            have cd1 := Fd.out.c1
            have cd2 := Fd.out.c2
            have cd3 := Fd.out.c3
            go_wp2_with fail
            clear Lr cr0 cr1 cr2 cr3 cr4 cr5 cr6 cr7 cr8 Ld cd0 cd1 cd2 cd3
            refine (HCE2.out _).mono ?_
            rintro e v11 ⟨rfl, z11⟩
            have Nr := Lib.hid (Fr.out.on z11)
            have Nm := Lib.hid (Fm.out.on z11)
            have No := Lib.hid (Fo.out.on z11)
            have Np := Lib.hid (Fp.out.on z11)
            have Nd := Lib.hid (Fd.out.on z11)
            have Nu := Lib.hid (Fu.out.on z11)
            have NB := Lib.hid (bel_tr BW.out z11)
            clear BW z11 Fr Fm Fo Fp Fd Fu
            have Fr := Nr
            have Fm := Nm
            have Fo := No
            have Fp := Np
            have Fd := Nd
            have Fu := Nu
            have BW := NB
            clear NB Nr Nm No Np Nd Nu
            go_upto_region 12 with fail
            have Drx : gr ≠ v11.heap.size := by have := Fr.out.lt; omega
            have Dmx : gm ≠ v11.heap.size := by have := Fm.out.lt; omega
            have Dox : go ≠ v11.heap.size := by have := Fo.out.lt; omega
            generalize hW12 : (v11.alloc (.cells #[.int .u64 (wd X2 0 : Nat), .int .u64 (wd X2 1 : Nat), .int .u64 (wd X2 2 : Nat), .int .u64 (wd X2 3 : Nat)] 24)) = W12 at *
            have Nx : At W12 (v11.heap.size) _ _ := at_of hW12 (At.at_ _ _ _ _ (by simp))
            have Nr := at_of hW12 (Fr.out.alloc _)
            have Nm := at_of hW12 (Fm.out.alloc _)
            have No := at_of hW12 (Fo.out.alloc _)
            have Np := at_of hW12 (Fp.out.alloc _)
            have Nd := at_of hW12 (Fd.out.alloc _)
            have Nu := at_of hW12 (Fu.out.alloc _)
            have NB := gr_of hW12 (gr_alloc BW.out _)
            clear hW12 BW Fr Fm Fo Fp Fd Fu
            generalize v11.heap.size = gx at *
            have Fr := Lib.hid Nr
            have Fm := Lib.hid Nm
            have Fo := Lib.hid No
            have Fp := Lib.hid Np
            have Fd := Lib.hid Nd
            have Fu := Lib.hid Nu
            have Fx := Lib.hid Nx
            have BW := Lib.hid NB
            clear NB Nr Nm No Np Nd Nu Nx
            have Lx := Fx.out.lt
            have cx0 := Fx.out.c0
            have cx1 := Fx.out.c1
            have cx2 := Fx.out.c2
            have cx3 := Fx.out.c3
            have Lo := Fo.out.lt
            have co0 := Fo.out.c0
            have co1 := Fo.out.c1
            have co2 := Fo.out.c2
            have co3 := Fo.out.c3
            have Lr := Fr.out.lt
            have cr0 : W12.cell? ⟨gr, 0, none⟩ = some (.int .u64 (wd N 0 : Nat)) := Fr.out.cell 0
            have cr1 : W12.cell? ⟨gr, 1, none⟩ = some (.int .u64 (wd N 1 : Nat)) := Fr.out.cell 1
            have cr2 : W12.cell? ⟨gr, 2, none⟩ = some (.int .u64 (wd N 2 : Nat)) := Fr.out.cell 2
            have cr3 : W12.cell? ⟨gr, 3, none⟩ = some (.int .u64 (wd N 3 : Nat)) := Fr.out.cell 3
            have cr4 : W12.cell? ⟨gr, 4, none⟩ = some (.int .u64 (wd Y 0 : Nat)) := Fr.out.cell 4
            have cr5 : W12.cell? ⟨gr, 5, none⟩ = some (.int .u64 (wd Y 1 : Nat)) := Fr.out.cell 5
            have cr6 : W12.cell? ⟨gr, 6, none⟩ = some (.int .u64 (wd Y 2 : Nat)) := Fr.out.cell 6
            have cr7 : W12.cell? ⟨gr, 7, none⟩ = some (.int .u64 (wd Y 3 : Nat)) := Fr.out.cell 7
            have cr8 : W12.cell? ⟨gr, 8, none⟩ = some (.slice (some ⟨gs, os, none⟩) l cap) := Fr.out.cell 8
            go_wp2_with fail
            clear Lx cx0 cx1 cx2 cx3 Lo co0 co1 co2 co3 Lr cr0 cr1 cr2 cr3 cr4 cr5 cr6 cr7 cr8
            refine (HCS.out _).mono ?_
            rintro e v13 ⟨rfl, z13⟩
            have Nr := Lib.hid (Fr.out.on z13)
            have Nm := Lib.hid (Fm.out.on z13)
            have No := Lib.hid (Fo.out.on z13)
            have Np := Lib.hid (Fp.out.on z13)
            have Nd := Lib.hid (Fd.out.on z13)
            have Nu := Lib.hid (Fu.out.on z13)
            have Nx := Lib.hid (Fx.out.on z13)
            have NB := Lib.hid (bel_tr BW.out z13)
            clear BW z13 Fr Fm Fo Fp Fd Fu Fx
            have Fr := Nr
            have Fm := Nm
            have Fo := No
            have Fp := Np
            have Fd := Nd
            have Fu := Nu
            have Fx := Nx
            have BW := NB
            clear NB Nr Nm No Np Nd Nu Nx
            go_upto_region 13 with fail
            have Drz : gr ≠ v13.heap.size := by have := Fr.out.lt; omega
            have Dmz : gm ≠ v13.heap.size := by have := Fm.out.lt; omega
            have Doz : go ≠ v13.heap.size := by have := Fo.out.lt; omega
            generalize hW14 : (v13.alloc (.cells #[.int .u64 (wd Z 0 : Nat), .int .u64 (wd Z 1 : Nat), .int .u64 (wd Z 2 : Nat), .int .u64 (wd Z 3 : Nat)] 24)) = W14 at *
            have Nz : At W14 (v13.heap.size) _ _ := at_of hW14 (At.at_ _ _ _ _ (by simp))
            have Nr := at_of hW14 (Fr.out.alloc _)
            have Nm := at_of hW14 (Fm.out.alloc _)
            have No := at_of hW14 (Fo.out.alloc _)
            have Np := at_of hW14 (Fp.out.alloc _)
            have Nd := at_of hW14 (Fd.out.alloc _)
            have Nu := at_of hW14 (Fu.out.alloc _)
            have Nx := at_of hW14 (Fx.out.alloc _)
            have NB := gr_of hW14 (gr_alloc BW.out _)
            clear hW14 BW Fr Fm Fo Fp Fd Fu Fx
            generalize v13.heap.size = gz at *
            have Fr := Lib.hid Nr
            have Fm := Lib.hid Nm
            have Fo := Lib.hid No
            have Fp := Lib.hid Np
            have Fd := Lib.hid Nd
            have Fu := Lib.hid Nu
            have Fx := Lib.hid Nx
            have Fz := Lib.hid Nz
            have BW := Lib.hid NB
            clear NB Nr Nm No Np Nd Nu Nx Nz
            by_cases hg : G = 1
            · have hE := HEG.out
              rw [decide_eq_true hg] at hE
              have HE := Lib.hid hE; have HGG := Lib.hid hg
              clear hE hg
              try simp only [List.append_eq, List.cons_append, List.nil_append]
              refine wp_region_noPanic ?_
              refine wp_region_held_drew (S := fun w' => At w' gz 24 #[.int .u64 (wd Z 0 : Nat), .int .u64 (wd Z 1 : Nat), .int .u64 (wd Z 2 : Nat), .int .u64 (wd Z 3 : Nat)] ∧ At w' gr 27 #[.int .u64 (wd N 0 : Nat), .int .u64 (wd N 1 : Nat), .int .u64 (wd N 2 : Nat), .int .u64 (wd N 3 : Nat), .int .u64 (wd Y 0 : Nat), .int .u64 (wd Y 1 : Nat), .int .u64 (wd Y 2 : Nat), .int .u64 (wd Y 3 : Nat), .slice (some ⟨gs, os, none⟩) l cap] ∧ At w' go 24 #[.int .u64 (wd 1 0 : Nat), .int .u64 (wd 1 1 : Nat), .int .u64 (wd 1 2 : Nat), .int .u64 (wd 1 3 : Nat)]) (by kernel_rfl) (⟨Fz.out.drew, Fr.out.drew, Fo.out.drew⟩) (fun _ => ?_)
              refine wpAnyH_cores (fuel := 0) (⟨0, 75, [], Kind.val (.agg #[.int .u64 (wd Z 0 : Nat), .int .u64 (wd Z 1 : Nat), .int .u64 (wd Z 2 : Nat), .int .u64 (wd Z 3 : Nat)]), true⟩ :: ⟨1, 76, [0], Kind.val (.pointer (some ⟨gr, 0, none⟩)), true⟩ :: ⟨2, 77, [1], Kind.val (.agg #[.int .u64 (wd N 0 : Nat), .int .u64 (wd N 1 : Nat), .int .u64 (wd N 2 : Nat), .int .u64 (wd N 3 : Nat)]), true⟩ :: ⟨4, 79, [2], Kind.val (.agg #[.int .u64 (wd 1 0 : Nat), .int .u64 (wd 1 1 : Nat), .int .u64 (wd 1 2 : Nat), .int .u64 (wd 1 3 : Nat)]), true⟩ :: ⟨3, 78, [0, 2, 3], Kind.val (.agg #[.int .u64 (wd G 0 : Nat), .int .u64 (wd G 1 : Nat), .int .u64 (wd G 2 : Nat), .int .u64 (wd G 3 : Nat)]), false⟩ :: ⟨5, 80, [3, 4], Kind.val (.bool false), true⟩ :: []) _ _ W14 _ ?_ ?_ ?_ ?_ ?_ ?_ ?_ ?_ ?_ ?_ ?_
              · rfl
              · kernel_rfl
              · exact of_decide_eq_true (by kernel_rfl)
              · exact all_cons ⟨_, by rfl, by rfl⟩ (all_cons ⟨_, by rfl, by rfl⟩ (all_cons ⟨_, by rfl, by rfl⟩ (all_cons ⟨_, by rfl, by rfl⟩ (all_cons ⟨_, by rfl, by rfl⟩ (all_cons ⟨_, by rfl, by rfl⟩ (all_nil))))))
              · exact fun _ hb => ⟨Fz.out.on hb, Fr.out.on hb, Fo.out.on hb⟩
              · exact (Below.refl _ _).drew
              · kernel_rfl
              · exact fun _ _ _ _ _ h => h
              · refine all_cons ?_ (all_cons ?_ (all_cons ?_ (all_cons ?_ (all_cons ?_ (all_cons ?_ (all_nil))))))
                · exact coreG_loadP _ _ _ _ _ _ gz _ _ _ _ (by rfl) (by rfl) (wants_none) (known_old 15 _ (of_decide_eq_true (by rfl)) (by rfl)) (fun _ hs => hs.1)
                · exact coreG_held _ _ _ _ _ _ _ _ _ (by rfl) (by rfl) (wants_none) (known_old 2 _ (of_decide_eq_true (by rfl)) (by rfl)) (fun ρ w hx _ => fieldR0 _ _ _ _ _ _ ρ w gr hx)
                · exact coreG_held _ _ _ _ _ _ _ _ _ (by rfl) (by rfl) (wants_none) (known_core 1 76 _ _ (of_decide_eq_true (by rfl)) (by rfl) (by rfl) (by rfl)) (fun ρ w hx hs => loadR0 _ _ _ _ _ _ ρ w gr _ _ _ _ _ _ _ _ _ hx (hs.2.1))
                · exact coreG_loadP _ _ _ _ _ _ go _ _ _ _ (by rfl) (by rfl) (wants_none) (known_old 5 _ (of_decide_eq_true (by rfl)) (by rfl)) (fun _ hs => hs.2.2)
                · exact core_pureAs _ (by rfl)
                · exact coreG_bin _ _ _ _ _ _ _ _ _ _ _ _ _ (by rfl) (by rfl) (wants_none) (known_core 4 78 _ _ (of_decide_eq_true (by rfl)) (by rfl) (by rfl) (by rfl)) (known_core 3 79 _ _ (of_decide_eq_true (by rfl)) (by rfl) (by rfl) (by rfl)) (neq_run true _ _ _ _ _ _ _ _ _ _ _ _ _ _ _ HE.out)
              · refine all_cons ?_ (all_cons ?_ (all_cons ?_ (all_cons ?_ (all_cons ?_ (all_cons ?_ (all_nil))))))
                · exact core_stepAs _ (by rfl)
                · exact core_stepAs _ (by rfl)
                · exact core_stepAs _ (by rfl)
                · exact core_stepAs _ (by rfl)
                · exact fun _ => coreG_call _ 74 _ _ [.tmp 75, .tmp 77] _ _ _ _ _ _ _ (by rfl) Try.func74 (by kernel_rfl) (by rfl) (by rfl) (wants_none) (.cons (known_core 0 75 _ _ (of_decide_eq_true (by rfl)) (by rfl) (by rfl) (by rfl)) (.cons (known_core 2 77 _ _ (of_decide_eq_true (by rfl)) (by rfl) (by rfl) (by rfl)) .nil)) (HCC.out)
                · exact core_stepAs _ (by rfl)
              intro vs y15 hc
              obtain ⟨vv0, vv1, vv2, vv3, vv4, vv5, rfl⟩ := len6 vs hc.lv
              have qq0 : vv0 = .agg #[.int .u64 (wd Z 0 : Nat), .int .u64 (wd Z 1 : Nat), .int .u64 (wd Z 2 : Nat), .int .u64 (wd Z 3 : Nat)] := by obtain ⟨xx, hx, hy⟩ := hc.ok 0 _ rfl rfl; exact (Option.some.inj (show some vv0 = some xx from hx)).trans hy
              have qq1 : vv1 = .pointer (some ⟨gr, 0, none⟩) := by obtain ⟨xx, hx, hy⟩ := hc.ok 1 _ rfl rfl; exact (Option.some.inj (show some vv1 = some xx from hx)).trans hy
              have qq2 : vv2 = .agg #[.int .u64 (wd N 0 : Nat), .int .u64 (wd N 1 : Nat), .int .u64 (wd N 2 : Nat), .int .u64 (wd N 3 : Nat)] := by obtain ⟨xx, hx, hy⟩ := hc.ok 2 _ rfl rfl; exact (Option.some.inj (show some vv2 = some xx from hx)).trans hy
              have qq3 : vv3 = .agg #[.int .u64 (wd 1 0 : Nat), .int .u64 (wd 1 1 : Nat), .int .u64 (wd 1 2 : Nat), .int .u64 (wd 1 3 : Nat)] := by obtain ⟨xx, hx, hy⟩ := hc.ok 3 _ rfl rfl; exact (Option.some.inj (show some vv3 = some xx from hx)).trans hy
              have qq4 : vv4 = .agg #[.int .u64 (wd G 0 : Nat), .int .u64 (wd G 1 : Nat), .int .u64 (wd G 2 : Nat), .int .u64 (wd G 3 : Nat)] := by obtain ⟨xx, hx, hy⟩ := hc.ok 4 _ rfl rfl; exact (Option.some.inj (show some vv4 = some xx from hx)).trans hy
              have qq5 : vv5 = .bool false := by obtain ⟨xx, hx, hy⟩ := hc.ok 5 _ rfl rfl; exact (Option.some.inj (show some vv5 = some xx from hx)).trans hy
              have BZ := hc.bel
              clear hc
              have Nr := Fr.out.on BZ
              have Nm := Fm.out.on BZ
              have No := Fo.out.on BZ
              have Np := Fp.out.on BZ
              have Nd := Fd.out.on BZ
              have Nu := Fu.out.on BZ
              have Nx := Fx.out.on BZ
              have Nz := Fz.out.on BZ
              have NB := bel_tr BW.out BZ
              clear BW BZ Fr Fm Fo Fp Fd Fu Fx Fz
              subst qq0 qq1 qq2 qq3 qq4 qq5
              simp only [List.map_cons, List.map_nil, over, Act.put, List.setIfInBounds_toArray, List.set_cons_zero, List.set_cons_succ]
              refine wpAnyH_done (by kernel_rfl) ?_ _
              refine NoPanic.normal ?_
              have Fr := Lib.hid Nr
              have Fm := Lib.hid Nm
              have Fo := Lib.hid No
              have Fp := Lib.hid Np
              have Fd := Lib.hid Nd
              have Fu := Lib.hid Nu
              have Fx := Lib.hid Nx
              have Fz := Lib.hid Nz
              have BW := Lib.hid NB
              clear NB Nr Nm No Np Nd Nu Nx Nz
              have hiw : (i : Int) + 1 ≤ 9223372036854775807 := by have := HLT.out; have := HLC.out; omega
              go_wp2_with fail
              go_roundw
              case measure => (have := HLT.out; simp [intOf]; omega)
              case rel =>
                have hlt := HLT.out
                refine ⟨i + 1, by omega, by go_num, Fr.out, Fm.out, Fo.out, BW.out, ?_⟩
                intro j hj hji
                rcases Nat.lt_or_ge j i with h | h
                · exact HJ.out j hj h
                · obtain rfl : j = i := by omega
                  obtain ⟨_, hq1⟩ := HIL.out
                  rw [hq1, HWQ.out]; exact decide_eq_true HGG.out
            · have hE := HEG.out
              rw [decide_eq_false hg] at hE
              have HE := Lib.hid hE; have HGG := Lib.hid hg
              clear hE hg
              try simp only [List.append_eq, List.cons_append, List.nil_append]
              refine wp_region_noPanic ?_
              refine wp_region_held_drew (S := fun w' => At w' gz 24 #[.int .u64 (wd Z 0 : Nat), .int .u64 (wd Z 1 : Nat), .int .u64 (wd Z 2 : Nat), .int .u64 (wd Z 3 : Nat)] ∧ At w' gr 27 #[.int .u64 (wd N 0 : Nat), .int .u64 (wd N 1 : Nat), .int .u64 (wd N 2 : Nat), .int .u64 (wd N 3 : Nat), .int .u64 (wd Y 0 : Nat), .int .u64 (wd Y 1 : Nat), .int .u64 (wd Y 2 : Nat), .int .u64 (wd Y 3 : Nat), .slice (some ⟨gs, os, none⟩) l cap] ∧ At w' go 24 #[.int .u64 (wd 1 0 : Nat), .int .u64 (wd 1 1 : Nat), .int .u64 (wd 1 2 : Nat), .int .u64 (wd 1 3 : Nat)]) (by kernel_rfl) (⟨Fz.out.drew, Fr.out.drew, Fo.out.drew⟩) (fun _ => ?_)
              refine wpAnyH_cores (fuel := 0) (⟨0, 75, [], Kind.val (.agg #[.int .u64 (wd Z 0 : Nat), .int .u64 (wd Z 1 : Nat), .int .u64 (wd Z 2 : Nat), .int .u64 (wd Z 3 : Nat)]), true⟩ :: ⟨1, 76, [0], Kind.val (.pointer (some ⟨gr, 0, none⟩)), true⟩ :: ⟨2, 77, [1], Kind.val (.agg #[.int .u64 (wd N 0 : Nat), .int .u64 (wd N 1 : Nat), .int .u64 (wd N 2 : Nat), .int .u64 (wd N 3 : Nat)]), true⟩ :: ⟨4, 79, [2], Kind.val (.agg #[.int .u64 (wd 1 0 : Nat), .int .u64 (wd 1 1 : Nat), .int .u64 (wd 1 2 : Nat), .int .u64 (wd 1 3 : Nat)]), true⟩ :: ⟨3, 78, [0, 2, 3], Kind.val (.agg #[.int .u64 (wd G 0 : Nat), .int .u64 (wd G 1 : Nat), .int .u64 (wd G 2 : Nat), .int .u64 (wd G 3 : Nat)]), false⟩ :: ⟨5, 80, [3, 4], Kind.val (.bool true), true⟩ :: []) _ _ W14 _ ?_ ?_ ?_ ?_ ?_ ?_ ?_ ?_ ?_ ?_ ?_
              · rfl
              · kernel_rfl
              · exact of_decide_eq_true (by kernel_rfl)
              · exact all_cons ⟨_, by rfl, by rfl⟩ (all_cons ⟨_, by rfl, by rfl⟩ (all_cons ⟨_, by rfl, by rfl⟩ (all_cons ⟨_, by rfl, by rfl⟩ (all_cons ⟨_, by rfl, by rfl⟩ (all_cons ⟨_, by rfl, by rfl⟩ (all_nil))))))
              · exact fun _ hb => ⟨Fz.out.on hb, Fr.out.on hb, Fo.out.on hb⟩
              · exact (Below.refl _ _).drew
              · kernel_rfl
              · exact fun _ _ _ _ _ h => h
              · refine all_cons ?_ (all_cons ?_ (all_cons ?_ (all_cons ?_ (all_cons ?_ (all_cons ?_ (all_nil))))))
                · exact coreG_loadP _ _ _ _ _ _ gz _ _ _ _ (by rfl) (by rfl) (wants_none) (known_old 15 _ (of_decide_eq_true (by rfl)) (by rfl)) (fun _ hs => hs.1)
                · exact coreG_held _ _ _ _ _ _ _ _ _ (by rfl) (by rfl) (wants_none) (known_old 2 _ (of_decide_eq_true (by rfl)) (by rfl)) (fun ρ w hx _ => fieldR0 _ _ _ _ _ _ ρ w gr hx)
                · exact coreG_held _ _ _ _ _ _ _ _ _ (by rfl) (by rfl) (wants_none) (known_core 1 76 _ _ (of_decide_eq_true (by rfl)) (by rfl) (by rfl) (by rfl)) (fun ρ w hx hs => loadR0 _ _ _ _ _ _ ρ w gr _ _ _ _ _ _ _ _ _ hx (hs.2.1))
                · exact coreG_loadP _ _ _ _ _ _ go _ _ _ _ (by rfl) (by rfl) (wants_none) (known_old 5 _ (of_decide_eq_true (by rfl)) (by rfl)) (fun _ hs => hs.2.2)
                · exact core_pureAs _ (by rfl)
                · exact coreG_bin _ _ _ _ _ _ _ _ _ _ _ _ _ (by rfl) (by rfl) (wants_none) (known_core 4 78 _ _ (of_decide_eq_true (by rfl)) (by rfl) (by rfl) (by rfl)) (known_core 3 79 _ _ (of_decide_eq_true (by rfl)) (by rfl) (by rfl) (by rfl)) (neq_run false _ _ _ _ _ _ _ _ _ _ _ _ _ _ _ HE.out)
              · refine all_cons ?_ (all_cons ?_ (all_cons ?_ (all_cons ?_ (all_cons ?_ (all_cons ?_ (all_nil))))))
                · exact core_stepAs _ (by rfl)
                · exact core_stepAs _ (by rfl)
                · exact core_stepAs _ (by rfl)
                · exact core_stepAs _ (by rfl)
                · exact fun _ => coreG_call _ 74 _ _ [.tmp 75, .tmp 77] _ _ _ _ _ _ _ (by rfl) Try.func74 (by kernel_rfl) (by rfl) (by rfl) (wants_none) (.cons (known_core 0 75 _ _ (of_decide_eq_true (by rfl)) (by rfl) (by rfl) (by rfl)) (.cons (known_core 2 77 _ _ (of_decide_eq_true (by rfl)) (by rfl) (by rfl) (by rfl)) .nil)) (HCC.out)
                · exact core_stepAs _ (by rfl)
              intro vs y15 hc
              obtain ⟨vv0, vv1, vv2, vv3, vv4, vv5, rfl⟩ := len6 vs hc.lv
              have qq0 : vv0 = .agg #[.int .u64 (wd Z 0 : Nat), .int .u64 (wd Z 1 : Nat), .int .u64 (wd Z 2 : Nat), .int .u64 (wd Z 3 : Nat)] := by obtain ⟨xx, hx, hy⟩ := hc.ok 0 _ rfl rfl; exact (Option.some.inj (show some vv0 = some xx from hx)).trans hy
              have qq1 : vv1 = .pointer (some ⟨gr, 0, none⟩) := by obtain ⟨xx, hx, hy⟩ := hc.ok 1 _ rfl rfl; exact (Option.some.inj (show some vv1 = some xx from hx)).trans hy
              have qq2 : vv2 = .agg #[.int .u64 (wd N 0 : Nat), .int .u64 (wd N 1 : Nat), .int .u64 (wd N 2 : Nat), .int .u64 (wd N 3 : Nat)] := by obtain ⟨xx, hx, hy⟩ := hc.ok 2 _ rfl rfl; exact (Option.some.inj (show some vv2 = some xx from hx)).trans hy
              have qq3 : vv3 = .agg #[.int .u64 (wd 1 0 : Nat), .int .u64 (wd 1 1 : Nat), .int .u64 (wd 1 2 : Nat), .int .u64 (wd 1 3 : Nat)] := by obtain ⟨xx, hx, hy⟩ := hc.ok 3 _ rfl rfl; exact (Option.some.inj (show some vv3 = some xx from hx)).trans hy
              have qq4 : vv4 = .agg #[.int .u64 (wd G 0 : Nat), .int .u64 (wd G 1 : Nat), .int .u64 (wd G 2 : Nat), .int .u64 (wd G 3 : Nat)] := by obtain ⟨xx, hx, hy⟩ := hc.ok 4 _ rfl rfl; exact (Option.some.inj (show some vv4 = some xx from hx)).trans hy
              have qq5 : vv5 = .bool true := by obtain ⟨xx, hx, hy⟩ := hc.ok 5 _ rfl rfl; exact (Option.some.inj (show some vv5 = some xx from hx)).trans hy
              have BZ := hc.bel
              clear hc
              have Nr := Fr.out.on BZ
              have Nm := Fm.out.on BZ
              have No := Fo.out.on BZ
              have Np := Fp.out.on BZ
              have Nd := Fd.out.on BZ
              have Nu := Fu.out.on BZ
              have Nx := Fx.out.on BZ
              have Nz := Fz.out.on BZ
              have NB := bel_tr BW.out BZ
              clear BW BZ Fr Fm Fo Fp Fd Fu Fx Fz
              subst qq0 qq1 qq2 qq3 qq4 qq5
              simp only [List.map_cons, List.map_nil, over, Act.put, List.setIfInBounds_toArray, List.set_cons_zero, List.set_cons_succ]
              refine wpAnyH_done (by kernel_rfl) ?_ _
              refine NoPanic.normal ?_
              have Fr := Lib.hid Nr
              have Fm := Lib.hid Nm
              have Fo := Lib.hid No
              have Fp := Lib.hid Np
              have Fd := Lib.hid Nd
              have Fu := Lib.hid Nu
              have Fx := Lib.hid Nx
              have Fz := Lib.hid Nz
              have BW := Lib.hid NB
              clear NB Nr Nm No Np Nd Nu Nx Nz
              go_wp2
              go_ret
              exact ⟨by rw [HV.out, witB_no HIL.out (by rw [HWQ.out]; exact decide_eq_false HGG.out)]; rfl, BW.out⟩
          · have hlt2 : ¬ (i : Int) < (l : Int) := by omega
            have hii : i = l := by omega
            have HII := Lib.hid hii
            clear hlt hii
            go_wp2
            go_ret
            exact ⟨by rw [HV.out, witB_all HH1.out HH2.out (by rw [← HM.out, ← HX.out]; exact HH3.out) (fun j hj => HJ.out j hj (by rw [HII.out, ← HL.out]; exact hj))]; rfl, BW.out⟩
      · rw [decide_eq_false h3] at eqx
        have HH3 := Lib.hid h3
        clear h3
        have Lx := Fx.out.lt
        have cx0 := Fx.out.c0
        have cx1 := Fx.out.c1
        have cx2 := Fx.out.c2
        have cx3 := Fx.out.c3
        have Lo := Fo.out.lt
        have co0 := Fo.out.c0
        have co1 := Fo.out.c1
        have co2 := Fo.out.c2
        have co3 := Fo.out.c3
        go_wp2
        go_ret
        exact ⟨by rw [HV.out]; have h := HH3.out; rw [HX.out, HM.out] at h; simp [witB, h], BW.out⟩
    · have hk2 := cmpN_ge0 (Nat.le_of_not_lt h2)
      have HKK := Lib.hid HK2.out
      have HH2 := Lib.hid h2
      clear h2 HK2
      generalize cmpN Y N = k2 at *
      refine (HKK.out _).mono ?_
      rintro e v5 ⟨rfl, z5⟩
      have Nr := Lib.hid (Fr.out.on z5)
      have Nm := Lib.hid (Fm.out.on z5)
      have No := Lib.hid (Fo.out.on z5)
      have NB := Lib.hid (bel_tr BW.out z5)
      clear BW z5 Fr Fm Fo
      have Fr := Nr
      have Fm := Nm
      have Fo := No
      have BW := NB
      clear NB Nr Nm No
      go_wp2
      go_ret
      exact ⟨by rw [HV.out]; simp [witB, HH2.out], BW.out⟩
  · have hk := cmpN_le0 (Nat.le_of_not_lt h1)
    have HK := Lib.hid HK1.out
    have HH1 := Lib.hid h1
    clear h1 HK1
    generalize cmpN Y 1 = k at *
    have Lr := Fr.out.lt
    have cr0 : W3.cell? ⟨gr, 0, none⟩ = some (.int .u64 (wd N 0 : Nat)) := Fr.out.cell 0
    have cr1 : W3.cell? ⟨gr, 1, none⟩ = some (.int .u64 (wd N 1 : Nat)) := Fr.out.cell 1
    have cr2 : W3.cell? ⟨gr, 2, none⟩ = some (.int .u64 (wd N 2 : Nat)) := Fr.out.cell 2
    have cr3 : W3.cell? ⟨gr, 3, none⟩ = some (.int .u64 (wd N 3 : Nat)) := Fr.out.cell 3
    have cr4 : W3.cell? ⟨gr, 4, none⟩ = some (.int .u64 (wd Y 0 : Nat)) := Fr.out.cell 4
    have cr5 : W3.cell? ⟨gr, 5, none⟩ = some (.int .u64 (wd Y 1 : Nat)) := Fr.out.cell 5
    have cr6 : W3.cell? ⟨gr, 6, none⟩ = some (.int .u64 (wd Y 2 : Nat)) := Fr.out.cell 6
    have cr7 : W3.cell? ⟨gr, 7, none⟩ = some (.int .u64 (wd Y 3 : Nat)) := Fr.out.cell 7
    have cr8 : W3.cell? ⟨gr, 8, none⟩ = some (.slice a l cap) := Fr.out.cell 8
    have Lo := Fo.out.lt
    have co0 := Fo.out.c0
    have co1 := Fo.out.c1
    have co2 := Fo.out.c2
    have co3 := Fo.out.c3
    go_wp2_with fail
    clear Lr cr0 cr1 cr2 cr3 cr4 cr5 cr6 cr7 cr8 Lo co0 co1 co2 co3
    refine (HK.out _).mono ?_
    rintro e v4 ⟨rfl, z4⟩
    have Nr := Lib.hid (Fr.out.on z4)
    have Nm := Lib.hid (Fm.out.on z4)
    have No := Lib.hid (Fo.out.on z4)
    have NB := Lib.hid (bel_tr BW.out z4)
    clear BW z4 Fr Fm Fo
    have Fr := Nr
    have Fm := Nm
    have Fo := No
    have BW := NB
    clear NB Nr Nm No
    go_wp2
    go_ret
    exact ⟨by rw [HV.out]; simp [witB, HH1.out], BW.out⟩
end Go.Proofs.Ytodlpmepoakdlaa
