/-
  The statements' helper text: a hash, as digits of 16.
-/
import Derived.Test.YtkmjfaaelkmnkaaDoorOf
import Derived.Test.YtkmjfaaelkmnkaaDoorEqH
import Derived.Test.YtkmjfaaelkmnkaaDoorByte
import Derived.Test.YtkmjfaaelkmnkaaDoorCore3
import Derived.Deep.QuietTactic
import Derived.BigQuiet
namespace Go.Proofs.YtkmjfaaelkmnkaaDoor
open Go.RowKit
set_option linter.unusedSimpArgs false
set_option linter.unusedVariables false

def digs : ByteArray := ⟨#[48, 49, 50, 51, 52, 53, 54, 55, 56, 57, 97, 98, 99, 100, 101, 102]⟩
def hexS (l : List Nat) (i : Nat) : ByteArray := match i with
  | 0 => ⟨#[]⟩
  | k + 1 => (hexS l k ++ digs.extract (l.getD k 0 / 16) (l.getD k 0 / 16 + 1)) ++ digs.extract (l.getD k 0 % 16) (l.getD k 0 % 16 + 1)
section
variable {dst : Option Tmp} {ty : TypeId} {pos : String} {after : Array Edge} {gd : Option (Nat × Bool)} {x y z : Operand} {ρ : Operand → Value} {w : World}
theorem atH (g k : Nat) (hk : k < 32) (hx : ρ x = .pointer (some ⟨g, 0, none⟩)) (hy : ρ y = .int .i64 (k : Nat)) :
    (execOp ρ ⟨dst, .indexAddr 28 x y, ty, pos, after, gd⟩).run Tryd.prog w = .ok (.value (.pointer (some ⟨g, k, none⟩))) w := by
  have h1 : (k : Int) < 32 := by omega
  simp [execOp, hx, hy, go_sem, h1]
theorem shr8 (a h : Nat) (hh : a / 16 = h) (hx : ρ x = .int .u8 (a : Nat)) (hy : ρ y = .int .u64 4) :
    (execOp ρ ⟨dst, .binOp .shr 5 x y 86, ty, pos, after, gd⟩).run Tryd.prog w = .ok (.value (.int .u8 (h : Nat))) w := by
  have e : (a : Int) / 16 = (h : Int) := by omega
  simp [execOp, hx, hy, go_sem, e]
theorem add8 (a : Nat) (h : a < 255) (hx : ρ x = .int .u8 (a : Nat)) (hy : ρ y = .int .u8 1) :
    (execOp ρ ⟨dst, .binOp .add 5 x y 5, ty, pos, after, gd⟩).run Tryd.prog w = .ok (.value (.int .u8 (a + 1 : Nat))) w := by
  have e : ((a : Int) + 1) % 256 = (a : Int) + 1 := by omega
  simp [execOp, hx, hy, go_sem, IntKind.wrap_u8', e]
theorem and8 (a l : Nat) (ha : a < 256) (hl : a % 16 = l) (hx : ρ x = .int .u8 (a : Nat)) (hy : ρ y = .int .u8 15) :
    (execOp ρ ⟨dst, .binOp .and 5 x y 5, ty, pos, after, gd⟩).run Tryd.prog w = .ok (.value (.int .u8 (l : Nat))) w := by
  have AN : bits BinOp.and IntKind.u8 (a : Int) 15 = (l : Int) := by rw [show (15 : Int) = ((15 : Nat) : Int) from rfl, u8_and_nat _ _ ha (by omega), nat_mask4, hl]
  simp [execOp, hx, hy, go_sem, AN]
theorem sliceD (a : Nat) (ha : a < 16) (hx : ρ x = .string ⟨#[48, 49, 50, 51, 52, 53, 54, 55, 56, 57, 97, 98, 99, 100, 101, 102]⟩) (hy : ρ y = .int .u8 (a : Nat)) (hz : ρ z = .int .u8 (a + 1 : Nat)) :
    (execOp ρ ⟨dst, .slice 9 x (some y) (some z) none, ty, pos, after, gd⟩).run Tryd.prog w = .ok (.value (.string (digs.extract a (a + 1)))) w := by
  have h1 : (a : Int) ≤ (a : Int) + 1 := by omega
  have h2 : (a : Int) + 1 ≤ 16 := by omega
  have h3 : ((a : Int) + 1).toNat = a + 1 := by omega
  have h4 : (0 : Int) ≤ (a : Int) + 1 := by omega
  simp [execOp, hx, hy, hz, go_sem, h1, h2, h3, h4, digs]
theorem catS (a b : ByteArray) (hab : a.size + b.size ≤ 9223372036854775807) (hx : ρ x = .string a) (hy : ρ y = .string b) :
    (execOp ρ ⟨dst, .binOp .add 9 x y 9, ty, pos, after, gd⟩).run Tryd.prog w = .ok (.value (.string (a ++ b))) w := by
  simp [execOp, hx, hy, go_sem, hab]
end
/-- no text of these is long -/
theorem dig_size (a : Nat) : (digs.extract a (a + 1)).size ≤ 1 := by
  rw [ByteArray.size_extract]; omega
theorem hex_size (l : List Nat) : ∀ i, (hexS l i).size ≤ 2 * i
  | 0 => Nat.le_refl 0
  | k + 1 => by
    have h := hex_size l k
    have h1 := dig_size (l.getD k 0 / 16)
    have h2 := dig_size (l.getD k 0 % 16)
    rw [hexS, ByteArray.size_append, ByteArray.size_append]
    omega
set_option maxRecDepth 100000 in
set_option maxHeartbeats 4000000 in
theorem text_ok (l : List Nat) (hl : l.length = 32) (hb : ∀ y ∈ l, y < 256) (w : World) :
    Calls Tryd.prog 30 #[.agg (bs l).toArray] w fun e w' => e = .returned (.string (hexS l 32)) ∧ Below w.heap.size w w' := by
  have HL := Lib.hid hl
  have HB := Lib.hid hb
  clear hl hb
  go_enter Tryd.func30, Tryd.ntmps30
  go_wp2_with (refine law_box (d := 1) (ty := 28) (bs l).toArray rfl ?_; intro w1 N1; have H1 := Lib.hid N1; clear N1)
  have A1 := Lib.hid H1.out.at_
  have B1 := Lib.hid H1.out.bel
  clear H1
  obtain ⟨g, hg⟩ : ∃ x, w.heap.size = x := ⟨_, rfl⟩
  rw [hg] at A1 ⊢
  clear hg
  go_loopw [3, 4] (fun sv s' wr => ∃ i : Nat, i ≤ 32 ∧ s' = .int .i64 i ∧ sv = .string (hexS l i) ∧ At wr g 28 (bs l).toArray ∧ Below w.heap.size w wr) (fun _ s' _ => 32 - (intOf s').toNat)
  case atStart => exact ⟨0, by omega, rfl, rfl, A1.out, B1.out⟩
  case round =>
    obtain ⟨i, hi, rfl, rfl, hat, hbel⟩ := hrel
    clear A1 B1
    by_cases hlt : i < 32
    · have hlt' : (i : Int) < 32 := by omega
      have C := hat.byte i (by rw [HL.out]; exact hlt)
      have hx : l.getD i 0 < 256 := by rw [List.getD_eq_getElem?_getD, List.getElem?_eq_getElem (by rw [HL.out]; exact hlt)]; exact HB.out _ (List.getElem_mem _)
      have HS := Lib.hid (show hexS l (i + 1) = (hexS l i ++ digs.extract (l.getD i 0 / 16) (l.getD i 0 / 16 + 1)) ++ digs.extract (l.getD i 0 % 16) (l.getD i 0 % 16 + 1) from rfl)
      generalize l.getD i 0 = x at *
      obtain ⟨h, hh⟩ : ∃ h, x / 16 = h := ⟨_, rfl⟩
      obtain ⟨lw, hlw⟩ : ∃ h, x % 16 = h := ⟨_, rfl⟩
      rw [hh, hlw] at HS
      have z0 := hex_size l i
      have z1 := dig_size h
      have z2 := dig_size lw
      have h16 : h < 16 := by omega
      have l16 : lw < 16 := by omega
      have LG := hat.lt
      have HAT := Lib.hid hat
      have HBE := Lib.hid hbel
      clear hat hbel
      generalize hexS l i = sv at *
      go_wp2
      try simp only [List.append_eq, List.cons_append, List.nil_append]
      refine wp_region_noPanic ?_
      refine wp_region_held_drew (S := fun w' => Below wr.heap.size wr w') (by kernel_rfl) ((Below.refl _ _).drew) (fun _ => ?_)
      refine wpAnyH_cores (fuel := 1) (⟨0, 9, [], Kind.val (.string sv), true⟩ :: ⟨1, 10, [0], Kind.val (.int .i64 (i : Nat)), true⟩ :: ⟨2, 11, [1], Kind.val (.pointer (some ⟨g, i, none⟩)), true⟩ :: ⟨3, 12, [2], Kind.val (.int .u8 (x : Nat)), true⟩ :: ⟨4, 13, [3], Kind.val (.int .u8 (h : Nat)), true⟩ :: ⟨5, 14, [4], Kind.val (.int .i64 (i : Nat)), true⟩ :: ⟨6, 15, [5], Kind.val (.pointer (some ⟨g, i, none⟩)), true⟩ :: ⟨7, 16, [6], Kind.val (.int .u8 (x : Nat)), true⟩ :: ⟨8, 17, [7], Kind.val (.int .u8 (h : Nat)), true⟩ :: ⟨9, 18, [8], Kind.val (.int .u8 ((h + 1) : Nat)), true⟩ :: ⟨10, 19, [4, 9], Kind.val (.string (digs.extract h (h + 1))), true⟩ :: ⟨11, 20, [0, 10], Kind.val (.string (sv ++ digs.extract h (h + 1))), true⟩ :: ⟨12, 21, [11], Kind.val (.int .i64 (i : Nat)), true⟩ :: ⟨13, 22, [12], Kind.val (.pointer (some ⟨g, i, none⟩)), true⟩ :: ⟨14, 23, [13], Kind.val (.int .u8 (x : Nat)), true⟩ :: ⟨15, 24, [14], Kind.val (.int .u8 (lw : Nat)), true⟩ :: ⟨16, 25, [15], Kind.val (.int .i64 (i : Nat)), true⟩ :: ⟨17, 26, [16], Kind.val (.pointer (some ⟨g, i, none⟩)), true⟩ :: ⟨18, 27, [17], Kind.val (.int .u8 (x : Nat)), true⟩ :: ⟨19, 28, [18], Kind.val (.int .u8 (lw : Nat)), true⟩ :: ⟨20, 29, [19], Kind.val (.int .u8 ((lw + 1) : Nat)), true⟩ :: ⟨21, 30, [15, 20], Kind.val (.string (digs.extract lw (lw + 1))), true⟩ :: ⟨22, 31, [11, 21], Kind.val (.string (sv ++ digs.extract h (h + 1) ++ digs.extract lw (lw + 1))), true⟩ :: []) _ _ wr _ ?_ ?_ ?_ ?_ ?_ ?_ ?_ ?_ ?_ ?_ ?_
      · rfl
      · kernel_rfl
      · exact of_decide_eq_true (by kernel_rfl)
      · exact all_cons ⟨_, by rfl, by rfl⟩ (all_cons ⟨_, by rfl, by rfl⟩ (all_cons ⟨_, by rfl, by rfl⟩ (all_cons ⟨_, by rfl, by rfl⟩ (all_cons ⟨_, by rfl, by rfl⟩ (all_cons ⟨_, by rfl, by rfl⟩ (all_cons ⟨_, by rfl, by rfl⟩ (all_cons ⟨_, by rfl, by rfl⟩ (all_cons ⟨_, by rfl, by rfl⟩ (all_cons ⟨_, by rfl, by rfl⟩ (all_cons ⟨_, by rfl, by rfl⟩ (all_cons ⟨_, by rfl, by rfl⟩ (all_cons ⟨_, by rfl, by rfl⟩ (all_cons ⟨_, by rfl, by rfl⟩ (all_cons ⟨_, by rfl, by rfl⟩ (all_cons ⟨_, by rfl, by rfl⟩ (all_cons ⟨_, by rfl, by rfl⟩ (all_cons ⟨_, by rfl, by rfl⟩ (all_cons ⟨_, by rfl, by rfl⟩ (all_cons ⟨_, by rfl, by rfl⟩ (all_cons ⟨_, by rfl, by rfl⟩ (all_cons ⟨_, by rfl, by rfl⟩ (all_cons ⟨_, by rfl, by rfl⟩ (all_nil)))))))))))))))))))))))
      · exact fun _ hb => hb
      · exact (Below.refl _ _).drew
      · kernel_rfl
      · exact fun _ _ _ _ _ h => h
      · refine all_cons ?_ (all_cons ?_ (all_cons ?_ (all_cons ?_ (all_cons ?_ (all_cons ?_ (all_cons ?_ (all_cons ?_ (all_cons ?_ (all_cons ?_ (all_cons ?_ (all_cons ?_ (all_cons ?_ (all_cons ?_ (all_cons ?_ (all_cons ?_ (all_cons ?_ (all_cons ?_ (all_cons ?_ (all_cons ?_ (all_cons ?_ (all_cons ?_ (all_cons ?_ (all_nil)))))))))))))))))))))))
        · exact core_move _ _ _ _ _ _ (by rfl) (by rfl) (known_old 3 _ (of_decide_eq_true (by rfl)) (by rfl))
        · exact core_move _ _ _ _ _ _ (by rfl) (by rfl) (known_old 4 _ (of_decide_eq_true (by rfl)) (by rfl))
        · exact core_held2C _ _ _ _ _ _ _ _ _ _ (by rfl) (by rfl) (known_old 1 _ (of_decide_eq_true (by rfl)) (by rfl)) (known_core 1 10 _ _ (of_decide_eq_true (by rfl)) (by rfl) (by rfl) (by rfl)) (fun ρ w kx ky hs => atH g i hlt kx ky)
        · exact core_heldC _ _ _ _ _ _ _ _ (by rfl) (by rfl) (known_core 2 11 _ _ (of_decide_eq_true (by rfl)) (by rfl) (by rfl) (by rfl)) (fun ρ w kx hs => load8 _ _ _ kx ((hs.cell LG).trans C))
        · exact core_held2C _ _ _ _ _ _ _ _ _ _ (by rfl) (by rfl) (known_core 3 12 _ _ (of_decide_eq_true (by rfl)) (by rfl) (by rfl) (by rfl)) (known_const _) (fun ρ w kx ky hs => shr8 x h hh kx ky)
        · exact core_move _ _ _ _ _ _ (by rfl) (by rfl) (known_old 4 _ (of_decide_eq_true (by rfl)) (by rfl))
        · exact core_held2C _ _ _ _ _ _ _ _ _ _ (by rfl) (by rfl) (known_old 1 _ (of_decide_eq_true (by rfl)) (by rfl)) (known_core 5 14 _ _ (of_decide_eq_true (by rfl)) (by rfl) (by rfl) (by rfl)) (fun ρ w kx ky hs => atH g i hlt kx ky)
        · exact core_heldC _ _ _ _ _ _ _ _ (by rfl) (by rfl) (known_core 6 15 _ _ (of_decide_eq_true (by rfl)) (by rfl) (by rfl) (by rfl)) (fun ρ w kx hs => load8 _ _ _ kx ((hs.cell LG).trans C))
        · exact core_held2C _ _ _ _ _ _ _ _ _ _ (by rfl) (by rfl) (known_core 7 16 _ _ (of_decide_eq_true (by rfl)) (by rfl) (by rfl) (by rfl)) (known_const _) (fun ρ w kx ky hs => shr8 x h hh kx ky)
        · exact core_held2C _ _ _ _ _ _ _ _ _ _ (by rfl) (by rfl) (known_core 8 17 _ _ (of_decide_eq_true (by rfl)) (by rfl) (by rfl) (by rfl)) (known_const _) (fun ρ w kx ky hs => add8 h (by omega) kx ky)
        · exact core_held3C _ _ _ _ _ _ _ _ _ _ _ _ (by rfl) (by rfl) (known_const _) (known_core 4 13 _ _ (of_decide_eq_true (by rfl)) (by rfl) (by rfl) (by rfl)) (known_core 9 18 _ _ (of_decide_eq_true (by rfl)) (by rfl) (by rfl) (by rfl)) (fun ρ w kx ky kz hs => sliceD h (by omega) kx ky kz)
        · exact core_held2C _ _ _ _ _ _ _ _ _ _ (by rfl) (by rfl) (known_core 0 9 _ _ (of_decide_eq_true (by rfl)) (by rfl) (by rfl) (by rfl)) (known_core 10 19 _ _ (of_decide_eq_true (by rfl)) (by rfl) (by rfl) (by rfl)) (fun ρ w kx ky hs => catS _ _ (by omega) kx ky)
        · exact core_move _ _ _ _ _ _ (by rfl) (by rfl) (known_old 4 _ (of_decide_eq_true (by rfl)) (by rfl))
        · exact core_held2C _ _ _ _ _ _ _ _ _ _ (by rfl) (by rfl) (known_old 1 _ (of_decide_eq_true (by rfl)) (by rfl)) (known_core 12 21 _ _ (of_decide_eq_true (by rfl)) (by rfl) (by rfl) (by rfl)) (fun ρ w kx ky hs => atH g i hlt kx ky)
        · exact core_heldC _ _ _ _ _ _ _ _ (by rfl) (by rfl) (known_core 13 22 _ _ (of_decide_eq_true (by rfl)) (by rfl) (by rfl) (by rfl)) (fun ρ w kx hs => load8 _ _ _ kx ((hs.cell LG).trans C))
        · exact core_held2C _ _ _ _ _ _ _ _ _ _ (by rfl) (by rfl) (known_core 14 23 _ _ (of_decide_eq_true (by rfl)) (by rfl) (by rfl) (by rfl)) (known_const _) (fun ρ w kx ky hs => and8 x lw hx hlw kx ky)
        · exact core_move _ _ _ _ _ _ (by rfl) (by rfl) (known_old 4 _ (of_decide_eq_true (by rfl)) (by rfl))
        · exact core_held2C _ _ _ _ _ _ _ _ _ _ (by rfl) (by rfl) (known_old 1 _ (of_decide_eq_true (by rfl)) (by rfl)) (known_core 16 25 _ _ (of_decide_eq_true (by rfl)) (by rfl) (by rfl) (by rfl)) (fun ρ w kx ky hs => atH g i hlt kx ky)
        · exact core_heldC _ _ _ _ _ _ _ _ (by rfl) (by rfl) (known_core 17 26 _ _ (of_decide_eq_true (by rfl)) (by rfl) (by rfl) (by rfl)) (fun ρ w kx hs => load8 _ _ _ kx ((hs.cell LG).trans C))
        · exact core_held2C _ _ _ _ _ _ _ _ _ _ (by rfl) (by rfl) (known_core 18 27 _ _ (of_decide_eq_true (by rfl)) (by rfl) (by rfl) (by rfl)) (known_const _) (fun ρ w kx ky hs => and8 x lw hx hlw kx ky)
        · exact core_held2C _ _ _ _ _ _ _ _ _ _ (by rfl) (by rfl) (known_core 19 28 _ _ (of_decide_eq_true (by rfl)) (by rfl) (by rfl) (by rfl)) (known_const _) (fun ρ w kx ky hs => add8 lw (by omega) kx ky)
        · exact core_held3C _ _ _ _ _ _ _ _ _ _ _ _ (by rfl) (by rfl) (known_const _) (known_core 15 24 _ _ (of_decide_eq_true (by rfl)) (by rfl) (by rfl) (by rfl)) (known_core 20 29 _ _ (of_decide_eq_true (by rfl)) (by rfl) (by rfl) (by rfl)) (fun ρ w kx ky kz hs => sliceD lw (by omega) kx ky kz)
        · exact core_held2C _ _ _ _ _ _ _ _ _ _ (by rfl) (by rfl) (known_core 11 20 _ _ (of_decide_eq_true (by rfl)) (by rfl) (by rfl) (by rfl)) (known_core 21 30 _ _ (of_decide_eq_true (by rfl)) (by rfl) (by rfl) (by rfl)) (fun ρ w kx ky hs => catS _ _ (by rw [ByteArray.size_append]; omega) kx ky)
      · refine all_cons ?_ (all_cons ?_ (all_cons ?_ (all_cons ?_ (all_cons ?_ (all_cons ?_ (all_cons ?_ (all_cons ?_ (all_cons ?_ (all_cons ?_ (all_cons ?_ (all_cons ?_ (all_cons ?_ (all_cons ?_ (all_cons ?_ (all_cons ?_ (all_cons ?_ (all_cons ?_ (all_cons ?_ (all_cons ?_ (all_cons ?_ (all_cons ?_ (all_cons ?_ (all_nil)))))))))))))))))))))))
        · exact core_stepAs _ (by rfl)
        · exact core_stepAs _ (by rfl)
        · exact core_stepAs _ (by rfl)
        · exact core_stepAs _ (by rfl)
        · exact core_stepAs _ (by rfl)
        · exact core_stepAs _ (by rfl)
        · exact core_stepAs _ (by rfl)
        · exact core_stepAs _ (by rfl)
        · exact core_stepAs _ (by rfl)
        · exact core_stepAs _ (by rfl)
        · exact core_stepAs _ (by rfl)
        · exact core_stepAs _ (by rfl)
        · exact core_stepAs _ (by rfl)
        · exact core_stepAs _ (by rfl)
        · exact core_stepAs _ (by rfl)
        · exact core_stepAs _ (by rfl)
        · exact core_stepAs _ (by rfl)
        · exact core_stepAs _ (by rfl)
        · exact core_stepAs _ (by rfl)
        · exact core_stepAs _ (by rfl)
        · exact core_stepAs _ (by rfl)
        · exact core_stepAs _ (by rfl)
        · exact core_stepAs _ (by rfl)
      intro vs y1 hc
      obtain ⟨vv0, vv1, vv2, vv3, vv4, vv5, vv6, vv7, vv8, vv9, vv10, vv11, vv12, vv13, vv14, vv15, vv16, vv17, vv18, vv19, vv20, vv21, vv22, rfl⟩ := len23 vs hc.lv
      have qq0 : vv0 = .string sv := by obtain ⟨xx, hx, hy⟩ := hc.ok 0 _ rfl rfl; exact (Option.some.inj (show some vv0 = some xx from hx)).trans hy
      have qq1 : vv1 = .int .i64 (i : Nat) := by obtain ⟨xx, hx, hy⟩ := hc.ok 1 _ rfl rfl; exact (Option.some.inj (show some vv1 = some xx from hx)).trans hy
      have qq2 : vv2 = .pointer (some ⟨g, i, none⟩) := by obtain ⟨xx, hx, hy⟩ := hc.ok 2 _ rfl rfl; exact (Option.some.inj (show some vv2 = some xx from hx)).trans hy
      have qq3 : vv3 = .int .u8 (x : Nat) := by obtain ⟨xx, hx, hy⟩ := hc.ok 3 _ rfl rfl; exact (Option.some.inj (show some vv3 = some xx from hx)).trans hy
      have qq4 : vv4 = .int .u8 (h : Nat) := by obtain ⟨xx, hx, hy⟩ := hc.ok 4 _ rfl rfl; exact (Option.some.inj (show some vv4 = some xx from hx)).trans hy
      have qq5 : vv5 = .int .i64 (i : Nat) := by obtain ⟨xx, hx, hy⟩ := hc.ok 5 _ rfl rfl; exact (Option.some.inj (show some vv5 = some xx from hx)).trans hy
      have qq6 : vv6 = .pointer (some ⟨g, i, none⟩) := by obtain ⟨xx, hx, hy⟩ := hc.ok 6 _ rfl rfl; exact (Option.some.inj (show some vv6 = some xx from hx)).trans hy
      have qq7 : vv7 = .int .u8 (x : Nat) := by obtain ⟨xx, hx, hy⟩ := hc.ok 7 _ rfl rfl; exact (Option.some.inj (show some vv7 = some xx from hx)).trans hy
      have qq8 : vv8 = .int .u8 (h : Nat) := by obtain ⟨xx, hx, hy⟩ := hc.ok 8 _ rfl rfl; exact (Option.some.inj (show some vv8 = some xx from hx)).trans hy
      have qq9 : vv9 = .int .u8 ((h + 1) : Nat) := by obtain ⟨xx, hx, hy⟩ := hc.ok 9 _ rfl rfl; exact (Option.some.inj (show some vv9 = some xx from hx)).trans hy
      have qq10 : vv10 = .string (digs.extract h (h + 1)) := by obtain ⟨xx, hx, hy⟩ := hc.ok 10 _ rfl rfl; exact (Option.some.inj (show some vv10 = some xx from hx)).trans hy
      have qq11 : vv11 = .string (sv ++ digs.extract h (h + 1)) := by obtain ⟨xx, hx, hy⟩ := hc.ok 11 _ rfl rfl; exact (Option.some.inj (show some vv11 = some xx from hx)).trans hy
      have qq12 : vv12 = .int .i64 (i : Nat) := by obtain ⟨xx, hx, hy⟩ := hc.ok 12 _ rfl rfl; exact (Option.some.inj (show some vv12 = some xx from hx)).trans hy
      have qq13 : vv13 = .pointer (some ⟨g, i, none⟩) := by obtain ⟨xx, hx, hy⟩ := hc.ok 13 _ rfl rfl; exact (Option.some.inj (show some vv13 = some xx from hx)).trans hy
      have qq14 : vv14 = .int .u8 (x : Nat) := by obtain ⟨xx, hx, hy⟩ := hc.ok 14 _ rfl rfl; exact (Option.some.inj (show some vv14 = some xx from hx)).trans hy
      have qq15 : vv15 = .int .u8 (lw : Nat) := by obtain ⟨xx, hx, hy⟩ := hc.ok 15 _ rfl rfl; exact (Option.some.inj (show some vv15 = some xx from hx)).trans hy
      have qq16 : vv16 = .int .i64 (i : Nat) := by obtain ⟨xx, hx, hy⟩ := hc.ok 16 _ rfl rfl; exact (Option.some.inj (show some vv16 = some xx from hx)).trans hy
      have qq17 : vv17 = .pointer (some ⟨g, i, none⟩) := by obtain ⟨xx, hx, hy⟩ := hc.ok 17 _ rfl rfl; exact (Option.some.inj (show some vv17 = some xx from hx)).trans hy
      have qq18 : vv18 = .int .u8 (x : Nat) := by obtain ⟨xx, hx, hy⟩ := hc.ok 18 _ rfl rfl; exact (Option.some.inj (show some vv18 = some xx from hx)).trans hy
      have qq19 : vv19 = .int .u8 (lw : Nat) := by obtain ⟨xx, hx, hy⟩ := hc.ok 19 _ rfl rfl; exact (Option.some.inj (show some vv19 = some xx from hx)).trans hy
      have qq20 : vv20 = .int .u8 ((lw + 1) : Nat) := by obtain ⟨xx, hx, hy⟩ := hc.ok 20 _ rfl rfl; exact (Option.some.inj (show some vv20 = some xx from hx)).trans hy
      have qq21 : vv21 = .string (digs.extract lw (lw + 1)) := by obtain ⟨xx, hx, hy⟩ := hc.ok 21 _ rfl rfl; exact (Option.some.inj (show some vv21 = some xx from hx)).trans hy
      have qq22 : vv22 = .string (sv ++ digs.extract h (h + 1) ++ digs.extract lw (lw + 1)) := by obtain ⟨xx, hx, hy⟩ := hc.ok 22 _ rfl rfl; exact (Option.some.inj (show some vv22 = some xx from hx)).trans hy
      have BZ := hc.bel
      clear hc
      subst qq0 qq1 qq2 qq3 qq4 qq5 qq6 qq7 qq8 qq9 qq10 qq11 qq12 qq13 qq14 qq15 qq16 qq17 qq18 qq19 qq20 qq21 qq22
      simp only [List.map_cons, List.map_nil, over, Act.put, List.setIfInBounds_toArray, List.set_cons_zero, List.set_cons_succ]
      refine assign_one (i := 23) _ 3 _ _ _ (.string (sv ++ digs.extract h (h + 1) ++ digs.extract lw (lw + 1))) (by kernel_rfl) (by rfl) (by rfl) (BZ) ?_
      try simp only [Act.put, List.setIfInBounds_toArray, List.set_cons_zero, List.set_cons_succ]
      refine wpAnyH_done (by kernel_rfl) ?_ _
      refine NoPanic.normal ?_
      rw [show sv ++ digs.extract h (h + 1) ++ digs.extract lw (lw + 1) = hexS l (i + 1) from HS.out.symm]
      have HAT2 := Lib.hid (HAT.out.on BZ)
      have HBE2 := Lib.hid (bel_tr HBE.out BZ)
      clear HAT HBE BZ C HS LG z0 z1 z2
      obtain ⟨sv2, hsv2⟩ : ∃ s, hexS l (i + 1) = s := ⟨_, rfl⟩
      have HSV := Lib.hid hsv2
      rw [hsv2]
      clear hsv2
      go_wp2
      go_roundw
      case rel => exact ⟨i + 1, by omega, by go_num, by rw [HSV.out], HAT2.out, HBE2.out⟩
      case measure => simp [intOf]; omega
    · obtain rfl : i = 32 := by omega
      have hlt' : ¬ ((32 : Nat) : Int) < 32 := by omega
      have HBE := Lib.hid hbel
      clear hat hbel
      obtain ⟨sv, hsv⟩ : ∃ sv, hexS l 32 = sv := ⟨_, rfl⟩
      have HSV := Lib.hid hsv
      rw [hsv]
      clear hsv hlt
      go_wp2
      go_ret
      refine ⟨?_, HBE.out⟩
      rw [HSV.out]; rfl
end Go.Proofs.YtkmjfaaelkmnkaaDoor
