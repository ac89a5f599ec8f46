/-
  A Book that holds byte lists alone, each in a block of its own: Apart says true, and what lies below is as it was.
-/
import Derived.Test.YtjleelpnkkeakaaGreatDoorBkKeep
namespace Go.Proofs.YtjleelpnkkeakaaGreatDoor
open Go.RowKit

set_option maxRecDepth 100000 in
set_option maxHeartbeats 4000000 in
theorem apart_ok (w : World) (N B m : Nat) (v : Value) (l g : Nat → Value) (n : Nat → Nat) (X : Nat → List Value) (hm : m ≤ 200) (hb : Bk w N B m v l g n X) (hn : ∀ j, j < m → n j ≤ 4194304) :
    Calls Tryz.prog 16 #[.pointer (some ⟨B, 0, none⟩)] w fun e w' => e = .returned (.bool true) ∧ Below N w w' := by
  have H1 := Lib.hid (fill_ok w N B m v l g n X hm hb hn)
  have HN := Lib.hid hn
  clear hb hn
  go_enter Tryz.func16, Tryz.ntmps16
  go_wp2_with fail
  refine H1.out.mono ?_
  rintro e wa ⟨rfl, ba, za⟩
  have wa2 : wa.cell? ⟨B, 2, none⟩ = some (.slice none 0 0) := ba.1.cell 2
  have wa3 : wa.cell? ⟨B, 3, none⟩ = some (.slice none 0 0) := ba.1.cell 3
  have wa4 : wa.cell? ⟨B, 4, none⟩ = some (.slice none 0 0) := ba.1.cell 4
  have wa5 : wa.cell? ⟨B, 5, none⟩ = some (.slice none 0 0) := ba.1.cell 5
  have wa6 : wa.cell? ⟨B, 6, none⟩ = some (.slice none 0 0) := ba.1.cell 6
  have wa7 : wa.cell? ⟨B, 7, none⟩ = some (.slice none 0 0) := ba.1.cell 7
  have wa8 : wa.cell? ⟨B, 8, none⟩ = some (.slice none 0 0) := ba.1.cell 8
  have wa9 : wa.cell? ⟨B, 9, none⟩ = some (.slice none 0 0) := ba.1.cell 9
  have wa10 : wa.cell? ⟨B, 10, none⟩ = some (.slice none 0 0) := ba.1.cell 10
  have wa11 : wa.cell? ⟨B, 11, none⟩ = some (.slice none 0 0) := ba.1.cell 11
  have wa12 : wa.cell? ⟨B, 12, none⟩ = some (.slice none 0 0) := ba.1.cell 12
  have wa13 : wa.cell? ⟨B, 13, none⟩ = some (.slice none 0 0) := ba.1.cell 13
  have wa14 : wa.cell? ⟨B, 14, none⟩ = some (.slice none 0 0) := ba.1.cell 14
  have wa15 : wa.cell? ⟨B, 15, none⟩ = some (.slice none 0 0) := ba.1.cell 15
  have wa16 : wa.cell? ⟨B, 16, none⟩ = some (.slice none 0 0) := ba.1.cell 16
  have wa17 : wa.cell? ⟨B, 17, none⟩ = some (.slice none 0 0) := ba.1.cell 17
  have H2 := Lib.hid (grow_ok wa N B m v l g n hm ba HN.out)
  clear H1 ba
  go_wp2_with (first
    | (go_at_call 26; refine (fillInt_none B _ wa2).mono ?_; rintro e w' ⟨rfl, rfl⟩)
    | (go_at_call 27; refine (fillText_none B _ wa3).mono ?_; rintro e w' ⟨rfl, rfl⟩)
    | (go_at_call 28; refine (fillNum_none B _ wa4).mono ?_; rintro e w' ⟨rfl, rfl⟩)
    | (go_at_call 29; refine (fillHash_none B _ wa5).mono ?_; rintro e w' ⟨rfl, rfl⟩)
    | (go_at_call 30; refine (fillReason_none B _ wa6).mono ?_; rintro e w' ⟨rfl, rfl⟩)
    | (go_at_call 31; refine (fillKey_none B _ wa7).mono ?_; rintro e w' ⟨rfl, rfl⟩)
    | (go_at_call 32; refine (fillProof_none B _ wa8).mono ?_; rintro e w' ⟨rfl, rfl⟩)
    | (go_at_call 33; refine (fillDealing_none B _ wa9).mono ?_; rintro e w' ⟨rfl, rfl⟩)
    | (go_at_call 34; refine (fillOpened_none B _ wa10).mono ?_; rintro e w' ⟨rfl, rfl⟩)
    | (go_at_call 35; refine (fillShown_none B _ wa11).mono ?_; rintro e w' ⟨rfl, rfl⟩)
    | (go_at_call 36; refine (fillVote_none B _ wa12).mono ?_; rintro e w' ⟨rfl, rfl⟩)
    | (go_at_call 37; refine (fillBlock_none B _ wa13).mono ?_; rintro e w' ⟨rfl, rfl⟩)
    | (go_at_call 38; refine (fillEvidence_none B _ wa14).mono ?_; rintro e w' ⟨rfl, rfl⟩)
    | (go_at_call 39; refine (fillMsg_none B _ wa15).mono ?_; rintro e w' ⟨rfl, rfl⟩)
    | (go_at_call 40; refine (fillFrame_none B _ wa16).mono ?_; rintro e w' ⟨rfl, rfl⟩)
    | (go_at_call 41; refine (fillRecord_none B _ wa17).mono ?_; rintro e w' ⟨rfl, rfl⟩))
  clear wa2 wa3 wa4 wa5 wa6 wa7 wa8 wa9 wa10 wa11 wa12 wa13 wa14 wa15 wa16 wa17
  refine H2.out.mono ?_
  rintro e wb ⟨rfl, ⟨g', bb⟩, zb⟩
  have wb2 : wb.cell? ⟨B, 2, none⟩ = some (.slice none 0 0) := bb.1.1.cell 2
  have wb3 : wb.cell? ⟨B, 3, none⟩ = some (.slice none 0 0) := bb.1.1.cell 3
  have wb4 : wb.cell? ⟨B, 4, none⟩ = some (.slice none 0 0) := bb.1.1.cell 4
  have wb5 : wb.cell? ⟨B, 5, none⟩ = some (.slice none 0 0) := bb.1.1.cell 5
  have wb6 : wb.cell? ⟨B, 6, none⟩ = some (.slice none 0 0) := bb.1.1.cell 6
  have wb7 : wb.cell? ⟨B, 7, none⟩ = some (.slice none 0 0) := bb.1.1.cell 7
  have wb8 : wb.cell? ⟨B, 8, none⟩ = some (.slice none 0 0) := bb.1.1.cell 8
  have wb9 : wb.cell? ⟨B, 9, none⟩ = some (.slice none 0 0) := bb.1.1.cell 9
  have wb10 : wb.cell? ⟨B, 10, none⟩ = some (.slice none 0 0) := bb.1.1.cell 10
  have wb11 : wb.cell? ⟨B, 11, none⟩ = some (.slice none 0 0) := bb.1.1.cell 11
  have wb12 : wb.cell? ⟨B, 12, none⟩ = some (.slice none 0 0) := bb.1.1.cell 12
  have wb13 : wb.cell? ⟨B, 13, none⟩ = some (.slice none 0 0) := bb.1.1.cell 13
  have wb14 : wb.cell? ⟨B, 14, none⟩ = some (.slice none 0 0) := bb.1.1.cell 14
  have wb15 : wb.cell? ⟨B, 15, none⟩ = some (.slice none 0 0) := bb.1.1.cell 15
  have wb16 : wb.cell? ⟨B, 16, none⟩ = some (.slice none 0 0) := bb.1.1.cell 16
  have wb17 : wb.cell? ⟨B, 17, none⟩ = some (.slice none 0 0) := bb.1.1.cell 17
  have H3 := Lib.hid (look_ok wb N B m v l g' n hm bb HN.out)
  clear H2 bb
  go_wp2_with (first
    | (go_at_call 43; refine (growInt_none B _ wb2).mono ?_; rintro e w' ⟨rfl, rfl⟩)
    | (go_at_call 44; refine (growText_none B _ wb3).mono ?_; rintro e w' ⟨rfl, rfl⟩)
    | (go_at_call 45; refine (growNum_none B _ wb4).mono ?_; rintro e w' ⟨rfl, rfl⟩)
    | (go_at_call 46; refine (growHash_none B _ wb5).mono ?_; rintro e w' ⟨rfl, rfl⟩)
    | (go_at_call 47; refine (growReason_none B _ wb6).mono ?_; rintro e w' ⟨rfl, rfl⟩)
    | (go_at_call 48; refine (growKey_none B _ wb7).mono ?_; rintro e w' ⟨rfl, rfl⟩)
    | (go_at_call 49; refine (growProof_none B _ wb8).mono ?_; rintro e w' ⟨rfl, rfl⟩)
    | (go_at_call 50; refine (growDealing_none B _ wb9).mono ?_; rintro e w' ⟨rfl, rfl⟩)
    | (go_at_call 51; refine (growOpened_none B _ wb10).mono ?_; rintro e w' ⟨rfl, rfl⟩)
    | (go_at_call 52; refine (growShown_none B _ wb11).mono ?_; rintro e w' ⟨rfl, rfl⟩)
    | (go_at_call 53; refine (growVote_none B _ wb12).mono ?_; rintro e w' ⟨rfl, rfl⟩)
    | (go_at_call 54; refine (growBlock_none B _ wb13).mono ?_; rintro e w' ⟨rfl, rfl⟩)
    | (go_at_call 55; refine (growEvidence_none B _ wb14).mono ?_; rintro e w' ⟨rfl, rfl⟩)
    | (go_at_call 56; refine (growMsg_none B _ wb15).mono ?_; rintro e w' ⟨rfl, rfl⟩)
    | (go_at_call 57; refine (growFrame_none B _ wb16).mono ?_; rintro e w' ⟨rfl, rfl⟩)
    | (go_at_call 58; refine (growRecord_none B _ wb17).mono ?_; rintro e w' ⟨rfl, rfl⟩))
  clear wb2 wb3 wb4 wb5 wb6 wb7 wb8 wb9 wb10 wb11 wb12 wb13 wb14 wb15 wb16 wb17
  refine H3.out.mono ?_
  rintro e wc ⟨rfl, bc, zc⟩
  have wc2 : wc.cell? ⟨B, 2, none⟩ = some (.slice none 0 0) := bc.1.1.cell 2
  have wc3 : wc.cell? ⟨B, 3, none⟩ = some (.slice none 0 0) := bc.1.1.cell 3
  have wc4 : wc.cell? ⟨B, 4, none⟩ = some (.slice none 0 0) := bc.1.1.cell 4
  have wc5 : wc.cell? ⟨B, 5, none⟩ = some (.slice none 0 0) := bc.1.1.cell 5
  have wc6 : wc.cell? ⟨B, 6, none⟩ = some (.slice none 0 0) := bc.1.1.cell 6
  have wc7 : wc.cell? ⟨B, 7, none⟩ = some (.slice none 0 0) := bc.1.1.cell 7
  have wc8 : wc.cell? ⟨B, 8, none⟩ = some (.slice none 0 0) := bc.1.1.cell 8
  have wc9 : wc.cell? ⟨B, 9, none⟩ = some (.slice none 0 0) := bc.1.1.cell 9
  have wc10 : wc.cell? ⟨B, 10, none⟩ = some (.slice none 0 0) := bc.1.1.cell 10
  have wc11 : wc.cell? ⟨B, 11, none⟩ = some (.slice none 0 0) := bc.1.1.cell 11
  have wc12 : wc.cell? ⟨B, 12, none⟩ = some (.slice none 0 0) := bc.1.1.cell 12
  have wc13 : wc.cell? ⟨B, 13, none⟩ = some (.slice none 0 0) := bc.1.1.cell 13
  have wc14 : wc.cell? ⟨B, 14, none⟩ = some (.slice none 0 0) := bc.1.1.cell 14
  have wc15 : wc.cell? ⟨B, 15, none⟩ = some (.slice none 0 0) := bc.1.1.cell 15
  have wc16 : wc.cell? ⟨B, 16, none⟩ = some (.slice none 0 0) := bc.1.1.cell 16
  have wc17 : wc.cell? ⟨B, 17, none⟩ = some (.slice none 0 0) := bc.1.1.cell 17
  clear H3 bc
  go_wp2_with (first
    | (go_at_call 60; refine (lookInt_none B _ wc2).mono ?_; rintro e w' ⟨rfl, rfl⟩)
    | (go_at_call 61; refine (lookText_none B _ wc3).mono ?_; rintro e w' ⟨rfl, rfl⟩)
    | (go_at_call 62; refine (lookNum_none B _ wc4).mono ?_; rintro e w' ⟨rfl, rfl⟩)
    | (go_at_call 63; refine (lookHash_none B _ wc5).mono ?_; rintro e w' ⟨rfl, rfl⟩)
    | (go_at_call 64; refine (lookReason_none B _ wc6).mono ?_; rintro e w' ⟨rfl, rfl⟩)
    | (go_at_call 65; refine (lookKey_none B _ wc7).mono ?_; rintro e w' ⟨rfl, rfl⟩)
    | (go_at_call 66; refine (lookProof_none B _ wc8).mono ?_; rintro e w' ⟨rfl, rfl⟩)
    | (go_at_call 67; refine (lookDealing_none B _ wc9).mono ?_; rintro e w' ⟨rfl, rfl⟩)
    | (go_at_call 68; refine (lookOpened_none B _ wc10).mono ?_; rintro e w' ⟨rfl, rfl⟩)
    | (go_at_call 69; refine (lookShown_none B _ wc11).mono ?_; rintro e w' ⟨rfl, rfl⟩)
    | (go_at_call 70; refine (lookVote_none B _ wc12).mono ?_; rintro e w' ⟨rfl, rfl⟩)
    | (go_at_call 71; refine (lookBlock_none B _ wc13).mono ?_; rintro e w' ⟨rfl, rfl⟩)
    | (go_at_call 72; refine (lookEvidence_none B _ wc14).mono ?_; rintro e w' ⟨rfl, rfl⟩)
    | (go_at_call 73; refine (lookMsg_none B _ wc15).mono ?_; rintro e w' ⟨rfl, rfl⟩)
    | (go_at_call 74; refine (lookFrame_none B _ wc16).mono ?_; rintro e w' ⟨rfl, rfl⟩)
    | (go_at_call 75; refine (lookRecord_none B _ wc17).mono ?_; rintro e w' ⟨rfl, rfl⟩))
  clear wc2 wc3 wc4 wc5 wc6 wc7 wc8 wc9 wc10 wc11 wc12 wc13 wc14 wc15 wc16 wc17
  go_ret
  exact ⟨rfl, za.trans (zb.trans zc)⟩
end Go.Proofs.YtjleelpnkkeakaaGreatDoor
