/-
  A Book's fillByte: every byte of every list that it holds is that list's mark; nothing else is changed.
-/
import Derived.Test.YtjleelpnkkeakaaGreatDoorBkNone
import Derived.Deep.RegionHeld3
import Derived.Deep.DrawnRows
import Derived.Deep.QuietTactic
import Derived.BigQuiet
import Derived.Outline
namespace Go.Proofs.YtjleelpnkkeakaaGreatDoor
open Go.RowKit
attribute [local go_sem ↓] Go.wp_at_zero Go.wp_at_succ

/-- a Book's cells, if it holds byte lists alone -/
def bkc (m : Nat) (v : Value) : Array Value := #[.int .i64 (m : Int), v, .slice none 0 0, .slice none 0 0, .slice none 0 0, .slice none 0 0, .slice none 0 0, .slice none 0 0, .slice none 0 0, .slice none 0 0, .slice none 0 0, .slice none 0 0, .slice none 0 0, .slice none 0 0, .slice none 0 0, .slice none 0 0, .slice none 0 0, .slice none 0 0]

/-- the entries: list l j, long g j, number j + 1 -/
def Ents (w : World) (N : Nat) (v : Value) (m : Nat) (l g : Nat → Value) : Prop :=
  (m = 0 ∧ v = .slice none 0 0) ∨ ∃ h cap cur, v = .slice (some ⟨h, 0, none⟩) m cap ∧ N ≤ h ∧ At w h 70 cur ∧ m ≤ cap ∧ cap ≤ maxLen ∧ cur.size = cap * 3 ∧
    ∀ j, j < m → cur[j * 3]? = some (l j) ∧ cur[j * 3 + 1]? = some (g j) ∧ cur[j * 3 + 2]? = some (.int .i64 ((j + 1 : Nat) : Int)) ∧ ∃ a k c, g j = .slice a k c

def Bk (w : World) (N B m : Nat) (v : Value) (l g : Nat → Value) (n : Nat → Nat) (X : Nat → List Value) : Prop :=
  At w B 52 (bkc m v) ∧ Ents w N v m l g ∧ (∀ j, j < m → w.ownsRow N 5 1 (l j) (n j) (X j)) ∧
    (∀ i j, i < m → j < m → i ≠ j → (l i).ownBlock = none ∨ (l i).ownBlock ≠ (l j).ownBlock) ∧ N ≤ B

theorem mark_any (x : Nat) (w : World) (h : x < 256) : Calls Tryz.prog 76 #[.int .i64 x] w fun e w' => e = .returned (.int .u8 (x : Int)) ∧ w = w' := by
  go_enter Tryz.func76, Tryz.ntmps76
  go_wp2
  go_ret
  exact ⟨rfl, rfl⟩

/-- the byte that marks list number j -/
def mk (j : Nat) : Value := .int .u8 ((j + 1 : Nat) : Int)

/-- the first i lists are filled -/
def upX (i : Nat) (n : Nat → Nat) (X : Nat → List Value) (j : Nat) : List Value := if j < i then List.replicate (n j) (mk j) else X j
theorem upX_lt {i j : Nat} {n : Nat → Nat} {X : Nat → List Value} (h : j < i) : upX i n X j = List.replicate (n j) (mk j) := if_pos h
theorem upX_ge {i j : Nat} {n : Nat → Nat} {X : Nat → List Value} (h : ¬ j < i) : upX i n X j = X j := if_neg h

/-- while list i is filled: the variable h lies in block wo.heap.size; k bytes are marks; only the list's own block has changed, and what is new -/
def Inner (wi wo : World) (N i k ni : Nat) (AL : Option Addr) (cl : Nat) (x : List Value) (lv gv : Value) : Prop :=
  At wi wo.heap.size 70 #[lv, gv, .int .i64 ((i + 1 : Nat) : Int)] ∧
    wi.ownsRow N 5 1 (.slice AL ni cl) ni (List.replicate k (mk i) ++ x.drop k) ∧ wo.grownBy wi (Value.slice AL ni cl).ownBlock

theorem own_ne {w : World} {base n g : Nat} {t : TypeId} {v : Value} {xs : List Value} {cs : Array Value} (h : w.ownsRow base 5 1 v n xs) (hg : At w g t cs) (ht : (5 : Nat) ≠ t) : some g ≠ v.ownBlock := by
  rcases own_cases h with ⟨rfl, _, _⟩ | ⟨g', c, rfl⟩
  · simp [Value.ownBlock]
  · obtain ⟨cur, hat, _⟩ := own_at h
    intro e
    simp [Value.ownBlock] at e
    exact hat.ne_ hg ht e.symm

theorem bk_ext {w : World} {N B m : Nat} {v : Value} {l g : Nat → Value} {n : Nat → Nat} {X Y : Nat → List Value} (h : Bk w N B m v l g n X) (e : ∀ j, j < m → Y j = X j) : Bk w N B m v l g n Y :=
  ⟨h.1, h.2.1, fun j hj => by rw [e j hj]; exact h.2.2.1 j hj, h.2.2.2⟩

theorem fill_next {wo wi : World} {N B m i ni : Nat} {v : Value} {l g : Nat → Value} {n : Nat → Nat} {X : Nat → List Value} {AL : Option Addr} {cl : Nat} {gv : Value} (hi : i < m)
    (hb : Bk wo N B m v l g n (upX i n X)) (hl : l i = .slice AL (n i) cl) (hn : ni = n i) (hI : Inner wi wo N i ni ni AL cl (X i) (.slice AL ni cl) gv) :
    Bk wi N B m v l g n (upX (i + 1) n X) := by
  subst hn
  obtain ⟨h1, h2, h3, h4, h5⟩ := hb
  obtain ⟨_, k2, k3⟩ := hI
  have hrow := h3 i hi
  rw [hl] at hrow
  refine ⟨h1.grown k3 (own_ne hrow h1 (by decide)), ?_, fun j hj => ?_, h4, h5⟩
  · rcases h2 with h2 | ⟨h, cap, cur, hv, hN, hat, r⟩
    · exact .inl h2
    · exact .inr ⟨h, cap, cur, hv, hN, hat.grown k3 (own_ne hrow hat (by decide)), r⟩
  · by_cases hji : j = i
    · subst hji
      rw [hl, upX_lt (by omega)]
      have hx : (X j).length = n j := by
        have := (h3 j hj).1
        rw [upX_ge (by omega)] at this
        simpa using this
      rwa [List.drop_of_length_le (by omega), List.append_nil] at k2
    · have hk := (h3 j hj).kept k3 (by rw [← hl]; exact h4 j i hj hi hji)
      by_cases hlt : j < i
      · rw [upX_lt hlt] at hk; rw [upX_lt (by omega)]; exact hk
      · rw [upX_ge hlt] at hk; rw [upX_ge (by omega)]; exact hk

theorem fill_below {w wo wi : World} {N B m i k ni : Nat} {v : Value} {l g : Nat → Value} {n : Nat → Nat} {X : Nat → List Value} {AL : Option Addr} {cl : Nat} {x : List Value} {lv gv : Value}
    (hb : Bk wo N B m v l g n X) (hI : Inner wi wo N i k ni AL cl x lv gv) (h : Below N w wo) : Below N w wi :=
  h.grown hI.2.2 (by have := hb.1.lt; have := hb.2.2.2.2; omega) (fun g hg => (hI.2.1.lt g hg).1)

theorem inner_start {wr : World} {N i ni : Nat} {AL : Option Addr} {cl : Nat} {x : List Value} {gv : Value} (h : wr.ownsRow N 5 1 (.slice AL ni cl) ni x) :
    Inner (wr.alloc (.cells #[.slice AL ni cl, gv, .int .i64 ((i + 1 : Nat) : Int)] 70)) wr N i 0 ni AL cl x (.slice AL ni cl) gv :=
  ⟨At.new _ _ _, by simpa using h.alloc _, World.grownBy_alloc _ _ _⟩

theorem inner_step {wi wo : World} {N i k ni gg cl : Nat} {x : List Value} {lv gv : Value} (hk : k < ni) (hx : x.length = ni) (h : Inner wi wo N i k ni (some ⟨gg, 0, none⟩) cl x lv gv) (q : Nat) :
    Inner ((wi.setCell ⟨gg, k, none⟩ (.int .u8 ((i : Int) + 1))).drewN q) wo N i (k + 1) ni (some ⟨gg, 0, none⟩) cl x lv gv := by
  have hmk : Value.int .u8 ((i : Int) + 1) = mk i := by simp [mk]
  rw [hmk]
  obtain ⟨h1, h2, h3⟩ := h
  obtain ⟨cur, hat, _⟩ := own_at h2
  refine ⟨(h1.far (fun e => hat.ne_ h1 (by decide) e) _).drewN q, ?_, grown_drewN (grown_set h3 k (mk i)) q⟩
  have := own_set (k := k) h2 (mk i)
  have e : (List.replicate k (mk i) ++ x.drop k).set k (mk i) = List.replicate (k + 1) (mk i) ++ x.drop (k + 1) := by
    rw [List.set_append_right _ _ (by simp), List.length_replicate, Nat.sub_self, List.drop_eq_getElem_cons (by omega), List.set_cons_zero, List.replicate_succ']
    simp
  rwa [e] at this

set_option maxHeartbeats 1000000 in
theorem fill_ok (w : World) (N B m : Nat) (v : Value) (l g : Nat → Value) (n : Nat → Nat) (X : Nat → List Value) (hm : m ≤ 200) (hb : Bk w N B m v l g n X) (hn : ∀ j, j < m → n j ≤ 4194304) :
    Calls Tryz.prog 25 #[.pointer (some ⟨B, 0, none⟩)] w fun e w' => e = .returned (.tuple #[]) ∧ Bk w' N B m v l g n (fun j => List.replicate (n j) (mk j)) ∧ Below N w w' := by
  obtain ⟨A, c, hv⟩ : ∃ A c, v = .slice A m c := by
    rcases hb.2.1 with ⟨rfl, rfl⟩ | ⟨h, cap, _, rfl, _⟩
    · exact ⟨none, 0, rfl⟩
    · exact ⟨_, cap, rfl⟩
  subst hv
  have HB := Lib.hid hb
  clear hb
  go_enter Tryz.func25, Tryz.ntmps25
  go_wp2
  go_loopw [2] (fun s wr => ∃ i : Nat, i ≤ m ∧ s = .int .i64 i ∧ Hid (Bk wr N B m (.slice A m c) l g n (upX i n X)) ∧ Below N w wr) (fun s _ => m - (intOf s).toNat)
  case atStart => exact ⟨0, Nat.zero_le _, rfl, Lib.hid (bk_ext HB.out fun j _ => upX_ge (Nat.not_lt_zero j)), Below.refl _ _⟩
  case round =>
    obtain ⟨i, hi, rfl, HR, hbel⟩ := hrel
    have hc1 : wr.cell? ⟨B, 1, none⟩ = some (.slice A m c) := HR.out.1.cell 1
    by_cases hlt : i < m
    · rcases HR.out.2.1 with ⟨h0, _⟩ | ⟨h, cap, cur, hvv, hNh, hat, hmc, hcm, hcs, hcell⟩
      · omega
      · injection hvv with hA _ hcc
        subst hA hcc
        obtain ⟨q0, q1, q2, AG, kG, cG, hge⟩ := hcell i hlt
        obtain ⟨AL, cl, hle, _, _⟩ := own_form (HR.out.2.2.1 i hlt)
        have e0 : wr.cell? ⟨h, i * 3, none⟩ = some (.slice AL (n i) cl) := (hat.cell _).trans (hle ▸ q0)
        have e1 : wr.cell? ⟨h, i * 3 + 1, none⟩ = some (.slice AG kG cG) := (hat.cell _).trans (hge ▸ q1)
        have e2 : wr.cell? ⟨h, i * 3 + 2, none⟩ = some (.int .i64 ((i + 1 : Nat) : Int)) := (hat.cell _).trans q2
        have hlt' : (i : Int) < (m : Int) := by omega
        have HLE := Lib.hid hle
        have hni := hn i hlt
        have HN := Lib.hid hn
        obtain ⟨ni, hnie⟩ : ∃ ni, ni = n i := ⟨_, rfl⟩
        rw [← hnie] at e0 hni
        have HNI := Lib.hid hnie
        clear q0 q1 q2 hcell hcs hat hcm hle hge hnie hn
        go_wp2
        obtain ⟨wo, rfl⟩ : ∃ wo : World, wo = wr := ⟨_, rfl⟩
        go_loopw [4] (fun s wi => ∃ k : Nat, k ≤ ni ∧ s = .int .i64 k ∧ Hid (Inner wi wo N i k ni AL cl (X i) (.slice AL ni cl) (.slice AG kG cG))) (fun s _ => ni - (intOf s).toNat)
        case atStart =>
          refine ⟨0, Nat.zero_le _, rfl, Lib.hid ?_⟩
          have h3 := HR.out.2.2.1 i hlt
          rw [HLE.out, upX_ge (Nat.lt_irrefl i), ← HNI.out] at h3
          exact inner_start h3
        case round =>
          obtain ⟨k, hk, rfl, HI⟩ := hrel
          have V0 : wr.cell? ⟨wo.heap.size, 0, none⟩ = some (.slice AL ni cl) := HI.out.1.cell 0
          have V2 : wr.cell? ⟨wo.heap.size, 2, none⟩ = some (.int .i64 ((i + 1 : Nat) : Int)) := HI.out.1.cell 2
          by_cases hkl : k < ni
          · obtain ⟨gg, rfl⟩ : ∃ gg, AL = some ⟨gg, 0, none⟩ := by
              rcases own_cases HI.out.2.1 with ⟨h0, h1, _⟩ | ⟨gg, c', h0⟩
              · omega
              · injection h0 with h0; exact ⟨gg, h0⟩
            obtain ⟨cu, hat, _, _, _, hcs, _⟩ := own_at HI.out.2.1
            obtain ⟨y, hy⟩ : ∃ y, wr.cell? ⟨gg, k, none⟩ = some y := by
              rw [hat.cell]
              exact ⟨_, Array.getElem?_eq_getElem (by have := own_form HI.out.2.1; omega)⟩
            have hf : wr.frozen? ⟨gg, k, none⟩ = false := hat.frozen k
            have hne : ¬ gg = wo.heap.size := hat.ne_ HI.out.1 (by decide)
            have hkI : (k : Int) < (ni : Int) := by omega
            have hk0 : (0 : Int) ≤ (k : Int) := by omega
            clear hat hcs
            go_wp2
            go_region_held3 (fun w' => w'.cell? ⟨wo.heap.size, 0, none⟩ = some (.slice (some ⟨gg, 0, none⟩) ni cl) ∧ w'.cell? ⟨wo.heap.size, 2, none⟩ = some (.int .i64 ((i + 1 : Nat) : Int))) (go_keep)
              (first | (go_at_call 76; refine (mark_any (i + 1) _ (by omega)).mono ?_; rintro e w' ⟨rfl, rfl⟩))
            all_goals
              go_wp2
              go_roundw
              case rel => exact ⟨k + 1, by omega, by go_num, Lib.hid (inner_step hkl (by have := (HR.out.2.2.1 i hlt).1; rw [upX_ge (Nat.lt_irrefl i), ← HNI.out] at this; simpa using this) HI.out 1)⟩
              case measure => simp [intOf]; omega
          · obtain rfl : k = ni := by omega
            go_wp2
            go_roundw
            case rel => exact ⟨i + 1, by omega, by go_num, Lib.hid (fill_next hlt HR.out HLE.out HNI.out HI.out), fill_below HR.out HI.out hbel⟩
            case measure => simp [intOf]; omega
    · obtain rfl : i = m := by omega
      go_wp2
      go_end0
      exact ⟨rfl, bk_ext HR.out fun j hj => (upX_lt hj).symm, hbel⟩
end Go.Proofs.YtjleelpnkkeakaaGreatDoor
