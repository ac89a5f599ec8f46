/-
  A Book's lookByte: it says true where every list is filled and grown with its marks.
-/
import Derived.Test.YtjleelpnkkeakaaGreatDoorBkGrow
namespace Go.Proofs.YtjleelpnkkeakaaGreatDoor
open Go.RowKit

theorem is_any (x : Nat) (w : World) (h : x < 256) : Calls Tryz.prog 93 #[.int .u8 (x : Int), .int .i64 (x : Int)] w fun e w' => e = .returned (.bool true) ∧ w' = w := by
  go_enter Tryz.func93, Tryz.ntmps93
  go_wp2
  go_ret
  exact ⟨rfl, rfl⟩

/-- a callee that leaves the world alone, in a region that draws, behind draws -/
theorem quiet_at {P : Program} {f : FuncId} {args : Array Value} {w : World} {a n : Nat} {v : Value} (h : ∀ W : World, Calls P f args W fun e w' => e = .returned v ∧ w' = W) :
    Calls P f args (w.drewN (a + n)) fun e w'' => e = .returned v ∧ ∃ m, w'' = w.drewN (a + m) := (h _).mono fun _ _ ⟨he, hw⟩ => ⟨he, n, hw⟩

theorem Gr.kept {w w' : World} {N B m i : Nat} {v : Value} {l g : Nat → Value} {n : Nat → Nat} (h : Gr w N B m i v l g n) (hg : w.grownBy w' none) : Gr w' N B m i v l g n := by
  obtain ⟨⟨h1, h2, h3, h4, h5⟩, h6, h7⟩ := h
  have any : ∀ {n : Nat} {v : Value} {xs : List Value}, w.ownsRow N 5 1 v n xs → w'.ownsRow N 5 1 v n xs := fun ho => ho.kept hg (by cases hb : Value.ownBlock _ <;> simp)
  refine ⟨⟨h1.grown hg (by simp), ?_, fun j hj => any (h3 j hj), h4, h5⟩, fun j hj hjm => any (h6 j hj hjm), h7⟩
  rcases h2 with h2 | ⟨h, cap, cur, hv, hN, hat, r⟩
  · exact .inl h2
  · exact .inr ⟨h, cap, cur, hv, hN, hat.grown hg (by simp), r⟩

theorem cell_rep {w : World} {N g n c k i : Nat} (h : w.ownsRow N 5 1 (.slice (some ⟨g, 0, none⟩) n c) n (List.replicate n (mk i))) (hk : k < n) : w.cell? ⟨g, k, none⟩ = some (.int .u8 ((i + 1 : Nat) : Int)) := by
  have := h.cells (g := g) rfl k (mk i) (by simp [hk])
  rwa [Addr.add_lit, Nat.zero_add] at this

set_option maxRecDepth 100000 in
set_option maxHeartbeats 1000000 in
theorem look_ok (w : World) (N B m : Nat) (v : Value) (l g : Nat → Value) (n : Nat → Nat) (hm : m ≤ 200) (hb : Gr w N B m m v l g n) (hn : ∀ j, j < m → n j ≤ 4194304) :
    Calls Tryz.prog 59 #[.pointer (some ⟨B, 0, none⟩)] w fun e w' => e = .returned (.bool true) ∧ Gr w' N B m m v l g n ∧ Below N w w' := by
  obtain ⟨A, c, hv⟩ : ∃ A c, v = .slice A m c := by
    rcases hb.1.2.1 with ⟨rfl, rfl⟩ | ⟨h, cap, _, rfl, _⟩
    · exact ⟨none, 0, rfl⟩
    · exact ⟨_, cap, rfl⟩
  subst hv
  have HB := Lib.hid hb
  clear hb
  have HN := Lib.hid hn
  clear hn
  go_enter Tryz.func59, Tryz.ntmps59
  go_wp2
  go_loopw [3] (fun s wr => ∃ i : Nat, i ≤ m ∧ s = .int .i64 i ∧ Hid (w.grownBy wr none)) (fun s _ => m - (intOf s).toNat)
  case atStart => exact ⟨0, Nat.zero_le _, rfl, Lib.hid (World.grownBy.refl _ _)⟩
  case round =>
    obtain ⟨i, hi, rfl, HG⟩ := hrel
    have HR := Lib.hid (HB.out.kept HG.out)
    have hc1 : wr.cell? ⟨B, 1, none⟩ = some (.slice A m c) := HR.out.1.1.cell 1
    by_cases hlt : i < m
    · rcases HR.out.1.2.1 with ⟨h0, _⟩ | ⟨h, cap, cur, hvv, hNh, hat, hmc, hcm, hcs, hcell⟩
      · omega
      · injection hvv with hA _ hcc
        subst hA hcc
        obtain ⟨q0, q1, q2, _⟩ := hcell i hlt
        obtain ⟨AL, cl, hle, hncl, hclm⟩ := own_form (HR.out.1.2.2.1 i hlt)
        obtain ⟨AG, cG, hge, hgcl, hgcm⟩ := own_form (HR.out.2.1 i hlt hlt)
        have e0 : wr.cell? ⟨h, i * 3, none⟩ = some (.slice AL (n i) cl) := (hat.cell _).trans (hle ▸ q0)
        have e1 : wr.cell? ⟨h, i * 3 + 1, none⟩ = some (.slice AG (n i + 40) cG) := (hat.cell _).trans (hge ▸ q1)
        have e2 : wr.cell? ⟨h, i * 3 + 2, none⟩ = some (.int .i64 ((i + 1 : Nat) : Int)) := (hat.cell _).trans q2
        have hlt' : (i : Int) < (m : Int) := by omega
        have hni := HN.out i hlt
        have rl := HR.out.1.2.2.1 i hlt
        have rg := HR.out.2.1 i hlt hlt
        rw [hle] at rl
        rw [hge] at rg
        unfold marks at rl
        generalize n i = ni at *
        have HL := Lib.hid rl
        have HGr := Lib.hid rg
        clear q0 q1 q2 hcell hcs hat hcm hle hge rl rg hclm hgcm
        go_wp2
        obtain ⟨V, hV⟩ : ∃ V, V = wr.heap.size := ⟨_, rfl⟩
        rw [← hV]
        have hat : At (wr.alloc (.cells #[.slice AL ni cl, .slice AG (ni + 40) cG, .int .i64 ((i : Int) + 1)] 70)) V 70 #[.slice AL ni cl, .slice AG (ni + 40) cG, .int .i64 ((i : Int) + 1)] := by rw [hV]; exact At.new _ _ _
        have HLv := Lib.hid (HL.out.alloc (.cells #[.slice AL ni cl, .slice AG (ni + 40) cG, .int .i64 ((i : Int) + 1)] 70))
        have HGv := Lib.hid (HGr.out.alloc (.cells #[.slice AL ni cl, .slice AG (ni + 40) cG, .int .i64 ((i : Int) + 1)] 70))
        have HWv := Lib.hid (grown_al HG.out (.cells #[.slice AL ni cl, .slice AG (ni + 40) cG, .int .i64 ((i : Int) + 1)] 70))
        have V0 := hat.cell 0
        have V1 := hat.cell 1
        have V2 := hat.cell 2
        simp only [List.getElem?_toArray, List.getElem?_cons_succ, List.getElem?_cons_zero] at V0 V1 V2
        clear hat
        generalize wr.alloc (.cells #[.slice AL ni cl, .slice AG (ni + 40) cG, .int .i64 ((i : Int) + 1)] 70) = wv at *
        clear e0 e1 e2 hc1 HR HG HL HGr hV
        go_loopw [5] (fun s wi => ∃ k q : Nat, k ≤ ni + 40 ∧ s = .int .i64 k ∧ wi = wv.drewN q) (fun s _ => ni + 40 - (intOf s).toNat)
        case atStart => exact ⟨0, 0, Nat.zero_le _, rfl, rfl⟩
        case round =>
          obtain ⟨k, q, hk, rfl, rfl⟩ := hrel
          by_cases hkl : k < ni + 40
          · have hkI : (k : Int) < ((ni + 40 : Nat) : Int) := by omega
            have hkI' : (k : Int) < (ni : Int) + 40 := by omega
            have hk0 : (0 : Int) ≤ (k : Int) := by omega
            obtain ⟨gb, rfl⟩ : ∃ gb, AG = some ⟨gb, 0, none⟩ := by
              rcases own_cases HGv.out with ⟨h0, h1, _⟩ | ⟨gb, c', h0⟩
              · omega
              · injection h0 with h0; exact ⟨gb, h0⟩
            have cg := cell_rep HGv.out hkl
            by_cases hkn : k < ni
            · obtain ⟨lb, rfl⟩ : ∃ lb, AL = some ⟨lb, 0, none⟩ := by
                rcases own_cases HLv.out with ⟨h0, h1, _⟩ | ⟨lb, c', h0⟩
                · omega
                · injection h0 with h0; exact ⟨lb, h0⟩
              have cL := cell_rep HLv.out hkn
              have hkn' : (k : Int) < (ni : Int) := by omega
              go_wp2
              go_quiet ((go_at_call 93; exact quiet_at (fun W => is_any (i + 1) W (by omega))))
              go_wp2
              go_roundw
              case rel => exact ⟨k + 1, _, by omega, by go_num, rfl⟩
              case measure => simp [intOf]; omega
            · have hkn' : decide (k < ni) = false := by simp; omega
              go_wp2
              go_quiet ((go_at_call 93; exact quiet_at (fun W => is_any (i + 1) W (by omega))))
              go_wp2
              go_roundw
              case rel => exact ⟨k + 1, _, by omega, by go_num, rfl⟩
              case measure => simp [intOf]; omega
          · obtain rfl : k = ni + 40 := by omega
            go_wp2
            go_roundw
            case rel => exact ⟨i + 1, by omega, by go_num, Lib.hid (grown_drewN HWv.out q)⟩
            case measure => simp [intOf]; omega
    · obtain rfl : i = m := by omega
      go_wp2
      go_ret
      exact ⟨rfl, HR.out, (Below.refl _ _).grown HG.out (by have := HB.out.1.1.lt; have := HB.out.1.2.2.2.2; omega) (by simp)⟩
end Go.Proofs.YtjleelpnkkeakaaGreatDoor
