import Derived.Deep.Cut
import Derived.Test.YtmmgmljkmmgjdaaGreatDoorMBkN
import Derived.Test.YtmmgmljkmmgjdaaGreatDoorMBkNum
import Derived.Test.YtmmgmljkmmgjdaaGreatDoorMRe
import Derived.Test.YtmmgmljkmmgjdaaGreatDoorMTree
import Derived.Test.YtmmgmljkmmgjdaaGreatDoorMTw
namespace Go.Proofs.YtmmgmljkmmgjdaaGreatDoor
set_option maxRecDepth 100000
set_option maxHeartbeats 8000000
open Go.RowKit
set_option linter.unusedSimpArgs false
set_option linter.unusedVariables false
attribute [local go_sem ↓] Go.wp_at_zero Go.wp_at_succ

theorem apart_any (N gB n0:Nat) (v:Nat→Value) (R0:List (Nat × TypeId × Array Value)) (w0 w:World) (chNum:Nat) (ahNum:Option Addr) (esNum:List En) (hvNum:v 4=.slice ahNum esNum.length chNum) (hesNum:∀ e∈esNum,(∃ a n c,e.g=.slice a n c)∧e.q≤1000∧e.k≤100000) (hfaNum:FA 24 4 114 Jcj R0 (.slice ahNum esNum.length chNum) esNum 0) (hdjNum:EDj esNum) (hn1:v 1=.slice none 0 0) (hn2:v 2=.slice none 0 0) (hn3:v 3=.slice none 0 0) (hn5:v 5=.slice none 0 0) (hn6:v 6=.slice none 0 0) (hn7:v 7=.slice none 0 0) (hn8:v 8=.slice none 0 0) (hn9:v 9=.slice none 0 0) (hn10:v 10=.slice none 0 0) (hn11:v 11=.slice none 0 0) (hn12:v 12=.slice none 0 0) (hn13:v 13=.slice none 0 0) (hn14:v 14=.slice none 0 0) (hn15:v 15=.slice none 0 0) (hn16:v 16=.slice none 0 0) (hn17:v 17=.slice none 0 0) (HM:Mem n0 w0 w ((gB,57,bkc N v)::R0)):Calls Tryz.prog 18 #[.pointer (some ⟨gB,0,none⟩)] w fun e w'=>e=.returned (.bool true)∧Below n0 w0 w':=by
 refine Uf (args:=[.pointer (some ⟨gB,0,none⟩)]) HM Tryz.func18 rfl Tryz.ntmps18 (by rfl) fun a F HM=>?_
 refine Kgr ?_
 refine lxv (.bool false) F (Je rfl) fun a F=>?_
 refine Jc ?_
 refine Kgr ?_
 refine lxv (.pointer (some ⟨gB,0,none⟩)) F (Jb (F.ev rfl)) fun a F=>?_
 refine Jj F (Ja rfl _) rfl (by rfl) (Jh Tryz.func42 (by kernel_rfl) (by rfl) (.cons (F.ev rfl) .nil) _) (fillByte_none N gB n0 v _ _ _ hn1 HM) fun a w HM F=>?_
 refine Jc ?_
 refine Kgr ?_
 refine lxv (.pointer (some ⟨gB,0,none⟩)) F (Jb (F.ev rfl)) fun a F=>?_
 refine Jj F (Ja rfl _) rfl (by rfl) (Jh Tryz.func43 (by kernel_rfl) (by rfl) (.cons (F.ev rfl) .nil) _) (fillInt_none N gB n0 v _ _ _ hn2 HM) fun a w HM F=>?_
 refine Jc ?_
 refine Kgr ?_
 refine lxv (.pointer (some ⟨gB,0,none⟩)) F (Jb (F.ev rfl)) fun a F=>?_
 refine Jj F (Ja rfl _) rfl (by rfl) (Jh Tryz.func44 (by kernel_rfl) (by rfl) (.cons (F.ev rfl) .nil) _) (fillText_none N gB n0 v _ _ _ hn3 HM) fun a w HM F=>?_
 refine Jc ?_
 refine Kgr ?_
 refine lxv (.pointer (some ⟨gB,0,none⟩)) F (Jb (F.ev rfl)) fun a F=>?_
 refine Jj F (Ja rfl _) rfl (by rfl) (Jh Tryz.func45 (by kernel_rfl) (by rfl) (.cons (F.ev rfl) .nil) _) (fillNum_any N gB n0 chNum ahNum v esNum _ _ _ hvNum hesNum hfaNum hdjNum HM) fun a w hu F=>?_
 obtain ⟨R1,HM,hfbNum,ko⟩:=hu
 refine Jc ?_
 clear hfaNum;have hfaNum:=hfbNum;clear hfbNum
 clear ko
 refine Kgr ?_
 refine lxv (.pointer (some ⟨gB,0,none⟩)) F (Jb (F.ev rfl)) fun a F=>?_
 refine Jj F (Ja rfl _) rfl (by rfl) (Jh Tryz.func46 (by kernel_rfl) (by rfl) (.cons (F.ev rfl) .nil) _) (fillHash_none N gB n0 v _ _ _ hn5 HM) fun a w HM F=>?_
 refine Jc ?_
 refine Kgr ?_
 refine lxv (.pointer (some ⟨gB,0,none⟩)) F (Jb (F.ev rfl)) fun a F=>?_
 refine Jj F (Ja rfl _) rfl (by rfl) (Jh Tryz.func47 (by kernel_rfl) (by rfl) (.cons (F.ev rfl) .nil) _) (fillReason_none N gB n0 v _ _ _ hn6 HM) fun a w HM F=>?_
 refine Jc ?_
 refine Kgr ?_
 refine lxv (.pointer (some ⟨gB,0,none⟩)) F (Jb (F.ev rfl)) fun a F=>?_
 refine Jj F (Ja rfl _) rfl (by rfl) (Jh Tryz.func48 (by kernel_rfl) (by rfl) (.cons (F.ev rfl) .nil) _) (fillKey_none N gB n0 v _ _ _ hn7 HM) fun a w HM F=>?_
 refine Jc ?_
 refine Kgr ?_
 refine lxv (.pointer (some ⟨gB,0,none⟩)) F (Jb (F.ev rfl)) fun a F=>?_
 refine Jj F (Ja rfl _) rfl (by rfl) (Jh Tryz.func49 (by kernel_rfl) (by rfl) (.cons (F.ev rfl) .nil) _) (fillProof_none N gB n0 v _ _ _ hn8 HM) fun a w HM F=>?_
 refine Jc ?_
 refine Kgr ?_
 refine lxv (.pointer (some ⟨gB,0,none⟩)) F (Jb (F.ev rfl)) fun a F=>?_
 refine Jj F (Ja rfl _) rfl (by rfl) (Jh Tryz.func50 (by kernel_rfl) (by rfl) (.cons (F.ev rfl) .nil) _) (fillDealing_none N gB n0 v _ _ _ hn9 HM) fun a w HM F=>?_
 refine Jc ?_
 refine Kgr ?_
 refine lxv (.pointer (some ⟨gB,0,none⟩)) F (Jb (F.ev rfl)) fun a F=>?_
 refine Jj F (Ja rfl _) rfl (by rfl) (Jh Tryz.func51 (by kernel_rfl) (by rfl) (.cons (F.ev rfl) .nil) _) (fillOpened_none N gB n0 v _ _ _ hn10 HM) fun a w HM F=>?_
 refine Jc ?_
 refine Kgr ?_
 refine lxv (.pointer (some ⟨gB,0,none⟩)) F (Jb (F.ev rfl)) fun a F=>?_
 refine Jj F (Ja rfl _) rfl (by rfl) (Jh Tryz.func52 (by kernel_rfl) (by rfl) (.cons (F.ev rfl) .nil) _) (fillShown_none N gB n0 v _ _ _ hn11 HM) fun a w HM F=>?_
 refine Jc ?_
 refine Kgr ?_
 refine lxv (.pointer (some ⟨gB,0,none⟩)) F (Jb (F.ev rfl)) fun a F=>?_
 refine Jj F (Ja rfl _) rfl (by rfl) (Jh Tryz.func53 (by kernel_rfl) (by rfl) (.cons (F.ev rfl) .nil) _) (fillVote_none N gB n0 v _ _ _ hn12 HM) fun a w HM F=>?_
 refine Jc ?_
 refine Kgr ?_
 refine lxv (.pointer (some ⟨gB,0,none⟩)) F (Jb (F.ev rfl)) fun a F=>?_
 refine Jj F (Ja rfl _) rfl (by rfl) (Jh Tryz.func54 (by kernel_rfl) (by rfl) (.cons (F.ev rfl) .nil) _) (fillBlock_none N gB n0 v _ _ _ hn13 HM) fun a w HM F=>?_
 refine Jc ?_
 refine Kgr ?_
 refine lxv (.pointer (some ⟨gB,0,none⟩)) F (Jb (F.ev rfl)) fun a F=>?_
 refine Jj F (Ja rfl _) rfl (by rfl) (Jh Tryz.func55 (by kernel_rfl) (by rfl) (.cons (F.ev rfl) .nil) _) (fillEvidence_none N gB n0 v _ _ _ hn14 HM) fun a w HM F=>?_
 refine Jc ?_
 refine Kgr ?_
 refine lxv (.pointer (some ⟨gB,0,none⟩)) F (Jb (F.ev rfl)) fun a F=>?_
 refine Jj F (Ja rfl _) rfl (by rfl) (Jh Tryz.func56 (by kernel_rfl) (by rfl) (.cons (F.ev rfl) .nil) _) (fillMsg_none N gB n0 v _ _ _ hn15 HM) fun a w HM F=>?_
 refine Jc ?_
 refine Kgr ?_
 refine lxv (.pointer (some ⟨gB,0,none⟩)) F (Jb (F.ev rfl)) fun a F=>?_
 refine Jj F (Ja rfl _) rfl (by rfl) (Jh Tryz.func57 (by kernel_rfl) (by rfl) (.cons (F.ev rfl) .nil) _) (fillFrame_none N gB n0 v _ _ _ hn16 HM) fun a w HM F=>?_
 refine Jc ?_
 refine Kgr ?_
 refine lxv (.pointer (some ⟨gB,0,none⟩)) F (Jb (F.ev rfl)) fun a F=>?_
 refine Jj F (Ja rfl _) rfl (by rfl) (Jh Tryz.func58 (by kernel_rfl) (by rfl) (.cons (F.ev rfl) .nil) _) (fillRecord_none N gB n0 v _ _ _ hn17 HM) fun a w HM F=>?_
 refine Jc ?_
 have hgaNum:=hfaNum.ga;clear hfaNum
 refine Kgr ?_
 refine lxv (.pointer (some ⟨gB,0,none⟩)) F (Jb (F.ev rfl)) fun a F=>?_
 refine Jj F (Ja rfl _) rfl (by rfl) (Jh Tryz.func59 (by kernel_rfl) (by rfl) (.cons (F.ev rfl) .nil) _) (growByte_none N gB n0 v _ _ _ hn1 HM) fun a w HM F=>?_
 refine Jc ?_
 refine Kgr ?_
 refine lxv (.pointer (some ⟨gB,0,none⟩)) F (Jb (F.ev rfl)) fun a F=>?_
 refine Jj F (Ja rfl _) rfl (by rfl) (Jh Tryz.func60 (by kernel_rfl) (by rfl) (.cons (F.ev rfl) .nil) _) (growInt_none N gB n0 v _ _ _ hn2 HM) fun a w HM F=>?_
 refine Jc ?_
 refine Kgr ?_
 refine lxv (.pointer (some ⟨gB,0,none⟩)) F (Jb (F.ev rfl)) fun a F=>?_
 refine Jj F (Ja rfl _) rfl (by rfl) (Jh Tryz.func61 (by kernel_rfl) (by rfl) (.cons (F.ev rfl) .nil) _) (growText_none N gB n0 v _ _ _ hn3 HM) fun a w HM F=>?_
 refine Jc ?_
 refine Kgr ?_
 refine lxv (.pointer (some ⟨gB,0,none⟩)) F (Jb (F.ev rfl)) fun a F=>?_
 refine Jj F (Ja rfl _) rfl (by rfl) (Jh Tryz.func62 (by kernel_rfl) (by rfl) (.cons (F.ev rfl) .nil) _) (growNum_any N gB n0 chNum ahNum v esNum _ _ _ hvNum hesNum hgaNum hdjNum HM) fun a w hu F=>?_
 obtain ⟨ezNum,R2,HM,helNum,hgbNum,hezNum,ko⟩:=hu
 refine Jc ?_
 clear hgaNum;have hgaNum:=hgbNum;clear hgbNum
 clear ko
 refine Kgr ?_
 refine lxv (.pointer (some ⟨gB,0,none⟩)) F (Jb (F.ev rfl)) fun a F=>?_
 refine Jj F (Ja rfl _) rfl (by rfl) (Jh Tryz.func63 (by kernel_rfl) (by rfl) (.cons (F.ev rfl) .nil) _) (growHash_none N gB n0 v _ _ _ hn5 HM) fun a w HM F=>?_
 refine Jc ?_
 refine Kgr ?_
 refine lxv (.pointer (some ⟨gB,0,none⟩)) F (Jb (F.ev rfl)) fun a F=>?_
 refine Jj F (Ja rfl _) rfl (by rfl) (Jh Tryz.func64 (by kernel_rfl) (by rfl) (.cons (F.ev rfl) .nil) _) (growReason_none N gB n0 v _ _ _ hn6 HM) fun a w HM F=>?_
 refine Jc ?_
 refine Kgr ?_
 refine lxv (.pointer (some ⟨gB,0,none⟩)) F (Jb (F.ev rfl)) fun a F=>?_
 refine Jj F (Ja rfl _) rfl (by rfl) (Jh Tryz.func65 (by kernel_rfl) (by rfl) (.cons (F.ev rfl) .nil) _) (growKey_none N gB n0 v _ _ _ hn7 HM) fun a w HM F=>?_
 refine Jc ?_
 refine Kgr ?_
 refine lxv (.pointer (some ⟨gB,0,none⟩)) F (Jb (F.ev rfl)) fun a F=>?_
 refine Jj F (Ja rfl _) rfl (by rfl) (Jh Tryz.func66 (by kernel_rfl) (by rfl) (.cons (F.ev rfl) .nil) _) (growProof_none N gB n0 v _ _ _ hn8 HM) fun a w HM F=>?_
 refine Jc ?_
 refine Kgr ?_
 refine lxv (.pointer (some ⟨gB,0,none⟩)) F (Jb (F.ev rfl)) fun a F=>?_
 refine Jj F (Ja rfl _) rfl (by rfl) (Jh Tryz.func67 (by kernel_rfl) (by rfl) (.cons (F.ev rfl) .nil) _) (growDealing_none N gB n0 v _ _ _ hn9 HM) fun a w HM F=>?_
 refine Jc ?_
 refine Kgr ?_
 refine lxv (.pointer (some ⟨gB,0,none⟩)) F (Jb (F.ev rfl)) fun a F=>?_
 refine Jj F (Ja rfl _) rfl (by rfl) (Jh Tryz.func68 (by kernel_rfl) (by rfl) (.cons (F.ev rfl) .nil) _) (growOpened_none N gB n0 v _ _ _ hn10 HM) fun a w HM F=>?_
 refine Jc ?_
 refine Kgr ?_
 refine lxv (.pointer (some ⟨gB,0,none⟩)) F (Jb (F.ev rfl)) fun a F=>?_
 refine Jj F (Ja rfl _) rfl (by rfl) (Jh Tryz.func69 (by kernel_rfl) (by rfl) (.cons (F.ev rfl) .nil) _) (growShown_none N gB n0 v _ _ _ hn11 HM) fun a w HM F=>?_
 refine Jc ?_
 refine Kgr ?_
 refine lxv (.pointer (some ⟨gB,0,none⟩)) F (Jb (F.ev rfl)) fun a F=>?_
 refine Jj F (Ja rfl _) rfl (by rfl) (Jh Tryz.func70 (by kernel_rfl) (by rfl) (.cons (F.ev rfl) .nil) _) (growVote_none N gB n0 v _ _ _ hn12 HM) fun a w HM F=>?_
 refine Jc ?_
 refine Kgr ?_
 refine lxv (.pointer (some ⟨gB,0,none⟩)) F (Jb (F.ev rfl)) fun a F=>?_
 refine Jj F (Ja rfl _) rfl (by rfl) (Jh Tryz.func71 (by kernel_rfl) (by rfl) (.cons (F.ev rfl) .nil) _) (growBlock_none N gB n0 v _ _ _ hn13 HM) fun a w HM F=>?_
 refine Jc ?_
 refine Kgr ?_
 refine lxv (.pointer (some ⟨gB,0,none⟩)) F (Jb (F.ev rfl)) fun a F=>?_
 refine Jj F (Ja rfl _) rfl (by rfl) (Jh Tryz.func72 (by kernel_rfl) (by rfl) (.cons (F.ev rfl) .nil) _) (growEvidence_none N gB n0 v _ _ _ hn14 HM) fun a w HM F=>?_
 refine Jc ?_
 refine Kgr ?_
 refine lxv (.pointer (some ⟨gB,0,none⟩)) F (Jb (F.ev rfl)) fun a F=>?_
 refine Jj F (Ja rfl _) rfl (by rfl) (Jh Tryz.func73 (by kernel_rfl) (by rfl) (.cons (F.ev rfl) .nil) _) (growMsg_none N gB n0 v _ _ _ hn15 HM) fun a w HM F=>?_
 refine Jc ?_
 refine Kgr ?_
 refine lxv (.pointer (some ⟨gB,0,none⟩)) F (Jb (F.ev rfl)) fun a F=>?_
 refine Jj F (Ja rfl _) rfl (by rfl) (Jh Tryz.func74 (by kernel_rfl) (by rfl) (.cons (F.ev rfl) .nil) _) (growFrame_none N gB n0 v _ _ _ hn16 HM) fun a w HM F=>?_
 refine Jc ?_
 refine Kgr ?_
 refine lxv (.pointer (some ⟨gB,0,none⟩)) F (Jb (F.ev rfl)) fun a F=>?_
 refine Jj F (Ja rfl _) rfl (by rfl) (Jh Tryz.func75 (by kernel_rfl) (by rfl) (.cons (F.ev rfl) .nil) _) (growRecord_none N gB n0 v _ _ _ hn17 HM) fun a w HM F=>?_
 refine Jc ?_
 refine Kgr ?_
 refine lxv (.pointer (some ⟨gB,0,none⟩)) F (Jb (F.ev rfl)) fun a F=>?_
 refine Jj F (Ja rfl _) rfl (by rfl) (Jh Tryz.func76 (by kernel_rfl) (by rfl) (.cons (F.ev rfl) .nil) _) (lookByte_none N gB n0 v _ _ _ hn1 HM) fun a w HM F=>?_
 refine lxv (.bool true) F (Jb (F.ev rfl)) fun a F=>?_
 refine lxw 73 true (.pointer (some ⟨gB,0,none⟩)) F (Jb (F.ev rfl)) fun a F=>?_
 refine Jj F (F.want (t:=73) (c:=true) rfl rfl rfl (by rfl) rfl) rfl (by rfl) (Jh Tryz.func77 (by kernel_rfl) (by rfl) (.cons (F.ev rfl) .nil) _) (lookInt_none N gB n0 v _ _ _ hn2 HM) fun a w HM F=>?_
 refine lxv (.bool true) F (Kc (b:=true) (r:=.bool true) (F.ev rfl) (F.ev rfl) rfl rfl) fun a F=>?_
 refine lxv (.bool true) F (Jb (F.ev rfl)) fun a F=>?_
 refine lxw 77 true (.pointer (some ⟨gB,0,none⟩)) F (Jb (F.ev rfl)) fun a F=>?_
 refine Jj F (F.want (t:=77) (c:=true) rfl rfl rfl (by rfl) rfl) rfl (by rfl) (Jh Tryz.func78 (by kernel_rfl) (by rfl) (.cons (F.ev rfl) .nil) _) (lookText_none N gB n0 v _ _ _ hn3 HM) fun a w HM F=>?_
 refine lxv (.bool true) F (Kc (b:=true) (r:=.bool true) (F.ev rfl) (F.ev rfl) rfl rfl) fun a F=>?_
 refine lxv (.bool true) F (Jb (F.ev rfl)) fun a F=>?_
 refine lxw 81 true (.pointer (some ⟨gB,0,none⟩)) F (Jb (F.ev rfl)) fun a F=>?_
 refine Jj F (F.want (t:=81) (c:=true) rfl rfl rfl (by rfl) rfl) rfl (by rfl) (Jh Tryz.func79 (by kernel_rfl) (by rfl) (.cons (F.ev rfl) .nil) _) (lookNum_any N gB n0 chNum ahNum v ezNum _ _ _ (by rw [helNum];exact hvNum) hezNum hgaNum HM) fun a w HM F=>?_
 refine lxv (.bool true) F (Kc (b:=true) (r:=.bool true) (F.ev rfl) (F.ev rfl) rfl rfl) fun a F=>?_
 refine lxv (.bool true) F (Jb (F.ev rfl)) fun a F=>?_
 refine lxw 85 true (.pointer (some ⟨gB,0,none⟩)) F (Jb (F.ev rfl)) fun a F=>?_
 refine Jj F (F.want (t:=85) (c:=true) rfl rfl rfl (by rfl) rfl) rfl (by rfl) (Jh Tryz.func80 (by kernel_rfl) (by rfl) (.cons (F.ev rfl) .nil) _) (lookHash_none N gB n0 v _ _ _ hn5 HM) fun a w HM F=>?_
 refine lxv (.bool true) F (Kc (b:=true) (r:=.bool true) (F.ev rfl) (F.ev rfl) rfl rfl) fun a F=>?_
 refine lxv (.bool true) F (Jb (F.ev rfl)) fun a F=>?_
 refine lxw 89 true (.pointer (some ⟨gB,0,none⟩)) F (Jb (F.ev rfl)) fun a F=>?_
 refine Jj F (F.want (t:=89) (c:=true) rfl rfl rfl (by rfl) rfl) rfl (by rfl) (Jh Tryz.func81 (by kernel_rfl) (by rfl) (.cons (F.ev rfl) .nil) _) (lookReason_none N gB n0 v _ _ _ hn6 HM) fun a w HM F=>?_
 refine lxv (.bool true) F (Kc (b:=true) (r:=.bool true) (F.ev rfl) (F.ev rfl) rfl rfl) fun a F=>?_
 refine lxv (.bool true) F (Jb (F.ev rfl)) fun a F=>?_
 refine lxw 93 true (.pointer (some ⟨gB,0,none⟩)) F (Jb (F.ev rfl)) fun a F=>?_
 refine Jj F (F.want (t:=93) (c:=true) rfl rfl rfl (by rfl) rfl) rfl (by rfl) (Jh Tryz.func82 (by kernel_rfl) (by rfl) (.cons (F.ev rfl) .nil) _) (lookKey_none N gB n0 v _ _ _ hn7 HM) fun a w HM F=>?_
 refine lxv (.bool true) F (Kc (b:=true) (r:=.bool true) (F.ev rfl) (F.ev rfl) rfl rfl) fun a F=>?_
 refine lxv (.bool true) F (Jb (F.ev rfl)) fun a F=>?_
 refine lxw 97 true (.pointer (some ⟨gB,0,none⟩)) F (Jb (F.ev rfl)) fun a F=>?_
 refine Jj F (F.want (t:=97) (c:=true) rfl rfl rfl (by rfl) rfl) rfl (by rfl) (Jh Tryz.func83 (by kernel_rfl) (by rfl) (.cons (F.ev rfl) .nil) _) (lookProof_none N gB n0 v _ _ _ hn8 HM) fun a w HM F=>?_
 refine lxv (.bool true) F (Kc (b:=true) (r:=.bool true) (F.ev rfl) (F.ev rfl) rfl rfl) fun a F=>?_
 refine lxv (.bool true) F (Jb (F.ev rfl)) fun a F=>?_
 refine lxw 101 true (.pointer (some ⟨gB,0,none⟩)) F (Jb (F.ev rfl)) fun a F=>?_
 refine Jj F (F.want (t:=101) (c:=true) rfl rfl rfl (by rfl) rfl) rfl (by rfl) (Jh Tryz.func84 (by kernel_rfl) (by rfl) (.cons (F.ev rfl) .nil) _) (lookDealing_none N gB n0 v _ _ _ hn9 HM) fun a w HM F=>?_
 refine lxv (.bool true) F (Kc (b:=true) (r:=.bool true) (F.ev rfl) (F.ev rfl) rfl rfl) fun a F=>?_
 refine lxv (.bool true) F (Jb (F.ev rfl)) fun a F=>?_
 refine lxw 105 true (.pointer (some ⟨gB,0,none⟩)) F (Jb (F.ev rfl)) fun a F=>?_
 refine Jj F (F.want (t:=105) (c:=true) rfl rfl rfl (by rfl) rfl) rfl (by rfl) (Jh Tryz.func85 (by kernel_rfl) (by rfl) (.cons (F.ev rfl) .nil) _) (lookOpened_none N gB n0 v _ _ _ hn10 HM) fun a w HM F=>?_
 refine lxv (.bool true) F (Kc (b:=true) (r:=.bool true) (F.ev rfl) (F.ev rfl) rfl rfl) fun a F=>?_
 refine lxv (.bool true) F (Jb (F.ev rfl)) fun a F=>?_
 refine lxw 109 true (.pointer (some ⟨gB,0,none⟩)) F (Jb (F.ev rfl)) fun a F=>?_
 refine Jj F (F.want (t:=109) (c:=true) rfl rfl rfl (by rfl) rfl) rfl (by rfl) (Jh Tryz.func86 (by kernel_rfl) (by rfl) (.cons (F.ev rfl) .nil) _) (lookShown_none N gB n0 v _ _ _ hn11 HM) fun a w HM F=>?_
 refine lxv (.bool true) F (Kc (b:=true) (r:=.bool true) (F.ev rfl) (F.ev rfl) rfl rfl) fun a F=>?_
 refine lxv (.bool true) F (Jb (F.ev rfl)) fun a F=>?_
 refine lxw 113 true (.pointer (some ⟨gB,0,none⟩)) F (Jb (F.ev rfl)) fun a F=>?_
 refine Jj F (F.want (t:=113) (c:=true) rfl rfl rfl (by rfl) rfl) rfl (by rfl) (Jh Tryz.func87 (by kernel_rfl) (by rfl) (.cons (F.ev rfl) .nil) _) (lookVote_none N gB n0 v _ _ _ hn12 HM) fun a w HM F=>?_
 refine lxv (.bool true) F (Kc (b:=true) (r:=.bool true) (F.ev rfl) (F.ev rfl) rfl rfl) fun a F=>?_
 refine lxv (.bool true) F (Jb (F.ev rfl)) fun a F=>?_
 refine lxw 117 true (.pointer (some ⟨gB,0,none⟩)) F (Jb (F.ev rfl)) fun a F=>?_
 refine Jj F (F.want (t:=117) (c:=true) rfl rfl rfl (by rfl) rfl) rfl (by rfl) (Jh Tryz.func88 (by kernel_rfl) (by rfl) (.cons (F.ev rfl) .nil) _) (lookBlock_none N gB n0 v _ _ _ hn13 HM) fun a w HM F=>?_
 refine lxv (.bool true) F (Kc (b:=true) (r:=.bool true) (F.ev rfl) (F.ev rfl) rfl rfl) fun a F=>?_
 refine lxv (.bool true) F (Jb (F.ev rfl)) fun a F=>?_
 refine lxw 121 true (.pointer (some ⟨gB,0,none⟩)) F (Jb (F.ev rfl)) fun a F=>?_
 refine Jj F (F.want (t:=121) (c:=true) rfl rfl rfl (by rfl) rfl) rfl (by rfl) (Jh Tryz.func89 (by kernel_rfl) (by rfl) (.cons (F.ev rfl) .nil) _) (lookEvidence_none N gB n0 v _ _ _ hn14 HM) fun a w HM F=>?_
 refine lxv (.bool true) F (Kc (b:=true) (r:=.bool true) (F.ev rfl) (F.ev rfl) rfl rfl) fun a F=>?_
 refine lxv (.bool true) F (Jb (F.ev rfl)) fun a F=>?_
 refine lxw 125 true (.pointer (some ⟨gB,0,none⟩)) F (Jb (F.ev rfl)) fun a F=>?_
 refine Jj F (F.want (t:=125) (c:=true) rfl rfl rfl (by rfl) rfl) rfl (by rfl) (Jh Tryz.func90 (by kernel_rfl) (by rfl) (.cons (F.ev rfl) .nil) _) (lookMsg_none N gB n0 v _ _ _ hn15 HM) fun a w HM F=>?_
 refine lxv (.bool true) F (Kc (b:=true) (r:=.bool true) (F.ev rfl) (F.ev rfl) rfl rfl) fun a F=>?_
 refine lxv (.bool true) F (Jb (F.ev rfl)) fun a F=>?_
 refine lxw 129 true (.pointer (some ⟨gB,0,none⟩)) F (Jb (F.ev rfl)) fun a F=>?_
 refine Jj F (F.want (t:=129) (c:=true) rfl rfl rfl (by rfl) rfl) rfl (by rfl) (Jh Tryz.func91 (by kernel_rfl) (by rfl) (.cons (F.ev rfl) .nil) _) (lookFrame_none N gB n0 v _ _ _ hn16 HM) fun a w HM F=>?_
 refine lxv (.bool true) F (Kc (b:=true) (r:=.bool true) (F.ev rfl) (F.ev rfl) rfl rfl) fun a F=>?_
 refine lxv (.bool true) F (Jb (F.ev rfl)) fun a F=>?_
 refine lxw 133 true (.pointer (some ⟨gB,0,none⟩)) F (Jb (F.ev rfl)) fun a F=>?_
 refine Jj F (F.want (t:=133) (c:=true) rfl rfl rfl (by rfl) rfl) rfl (by rfl) (Jh Tryz.func92 (by kernel_rfl) (by rfl) (.cons (F.ev rfl) .nil) _) (lookRecord_none N gB n0 v _ _ _ hn17 HM) fun a w HM F=>?_
 refine lxv (.bool true) F (Kc (b:=true) (r:=.bool true) (F.ev rfl) (F.ev rfl) rfl rfl) fun a F=>?_
 refine lxv (.bool true) F (Je (F.ev rfl)) fun a F=>?_
 refine Jc ?_
 refine Kgq ?_
 refine wp_ret ?_
 repeat (first | refine Jt ?_ | refine Jo ?_)
 exact bodyPost_ret (Ua F rfl (s:=2) rfl) F.defers ⟨rfl,HM.bel⟩

theorem bel_lt2 {w:World} {M:List (Nat × TypeId × Array Value)} {n0:Nat} {w0:World} {g:Nat} (H:Mem n0 w0 w M) (hg:w.heap.size≤g):∀ x∈M,x.1≠g:=fun x hx=>by have:=H.lt x hx;omega
theorem Mem.more {n0:Nat} {w0 w w':World} {A R:List (Nat × TypeId × Array Value)} {g:Nat} {T:TypeId} {cur:Array Value} (H:Mem n0 w0 w (A++R)) (hb:Below w.heap.size w w') (hg:w.heap.size≤g) (hat:At w' g T cur):Mem n0 w0 w' (A++(g,T,cur)::R):=by
 have H1:Mem n0 w0 w' ((g,T,cur)::(A++R)):=(H.on hb).add (Nat.le_trans (Nat.le_trans H.le H.bel.size) hg) (fun x hx=>bel_lt2 H hg x hx) hat
 refine H1.pick (fun x hx=>?_) ?_
 ·rcases List.mem_append.1 hx with hx | hx
  ·exact List.mem_cons_of_mem _ (List.mem_append_left _ hx)
  ·rcases List.mem_cons.1 hx with rfl | hx
   ·exact List.mem_cons_self
   ·exact List.mem_cons_of_mem _ (List.mem_append_right _ hx)
 ·have hp:(A++(g,T,cur)::R).Perm ((g,T,cur)::(A++R)):=List.perm_middle
  exact ((hp.map _).nodup_iff).2 H1.nd
def KW (R R':List (Nat × TypeId × Array Value)) (v:Value):Prop:=∀ T1 s1 v1 n1 xs1,LW T1 s1 R v1 n1 xs1→LW T1 s1 R' v1 n1 xs1∧Dj v v1
theorem Jif {n0:Nat} {w0 w:World} {A R:List (Nat × TypeId × Array Value)} {g n cap:Nat} {T:TypeId} {cur:Array Value} (H:Mem n0 w0 w (A++R)) (hg:w.heap.size≤g):KW R ((g,T,cur)::R) (.slice (some ⟨g,0,none⟩) n cap):=fun T1 s1 v1 n1 xs1 l1=>by
 refine ⟨l1.mono fun x hx=>List.mem_cons_of_mem _ hx,Or.inr (Or.inr fun e=>?_)⟩
 obtain ⟨c1,hm1⟩:=l1.block (g:=g) e.symm
 have h3:g<w.heap.size:=H.lt _ (List.mem_append_right A hm1)
 omega
theorem kw_nil (R:List (Nat × TypeId × Array Value)):KW R R (.slice none 0 0):=fun _ _ _ _ _ l1=>⟨l1,Or.inl rfl⟩
theorem LW.pre {T:TypeId} {sz n k:Nat} {R:List (Nat × TypeId × Array Value)} {a:Option Addr} {cap:Nat} {xs:List Value} (h:LW T sz R (.slice a n cap) n xs) (hk:k≤n) (hn:0<n):LW T sz R (.slice a k cap) k (xs.take (k*sz)):=by
 have hl:k*sz≤n*sz:=Nat.mul_le_mul_right _ hk
 refine ⟨by rw [List.length_take,h.1];omega,?_⟩
 rcases h.2 with ⟨_,h0⟩ | ⟨g,cap',cur,e,hm,h1,h2,h3,h4⟩
 ·omega
 ·cases e
  exact Or.inr ⟨g,cap,cur,rfl,hm,by omega,h2,h3,by rw [← h4,List.take_take,Nat.min_eq_left hl]⟩
theorem LW.tw {T:TypeId} {sz n cap g n0:Nat} {w0 w:World} {M R:List (Nat × TypeId × Array Value)} {ys:List Value} (h:LW T sz R (.slice (some ⟨g,0,none⟩) (n+1) cap) (n+1) ys) (H:Mem n0 w0 w M) (hs:∀ x∈R,x∈M):TW T sz n0 w g n cap ys:=by
 rcases h.2 with ⟨e,_⟩ | ⟨g',cap',cur,e,hm,h1,h2,h3,h4⟩
 ·cases e
 ·cases e;exact ⟨cur,H.own _ (hs _ hm),H.at_ _ (hs _ hm),h1,h2,h3,h4⟩
theorem LW.rn {R M:List (Nat × TypeId × Array Value)} {a:Option Addr} {n cap n0:Nat} {w0 w:World} {xs:List Nat} (h:LW 24 4 R (.slice a n cap) n (flat xs)) (H:Mem n0 w0 w M) (hs:∀ x∈R,x∈M) (hn:xs.length=n) (hx:∀ x∈xs,x<2^256):RN w.heap.size w a n cap xs:=by
 subst hn
 have l:LR R (.slice a xs.length cap) xs:=by
  rcases h.2 with ⟨e,h0⟩ | ⟨g,cap',cur,e,hm,h1,h2,h3,h4⟩
  ·exact Or.inl ⟨e,List.length_eq_zero_iff.1 h0⟩
  ·exact Or.inr ⟨g,cap',cur,e,hm,h1,h2,h3,h4⟩
 exact l.rn H hs hx
theorem pf_flat {cs:Array Value} {xs:List Nat} (h:Pf cs xs) (hz:cs.size=xs.length*4):cs.toList.take (xs.length*4)=flat xs:=by
 rw [List.take_of_length_le (by rw [Array.length_toList];omega)]
 apply List.ext_getElem?
 intro j
 by_cases hj:j<xs.length*4
 ·have h1:=h.2 (j/4) (by omega) (j%4) (by omega)
  have h2:=Jed xs (j/4) (by omega) (j%4) (by omega)
  rw [show j/4*4+j%4=j by omega] at h1 h2
  rw [h2,Array.getElem?_toList,h1]
 ·rw [List.getElem?_eq_none (by rw [Array.length_toList];omega),List.getElem?_eq_none (by rw [Vy];omega)]
theorem lw_pf {R:List (Nat × TypeId × Array Value)} {g n:Nat} {cs:Array Value} {xs:List Nat} (h:Pf cs xs) (hz:cs.size=n*4) (hn:xs.length=n) (hc:n≤9223372036854775807):LW 24 4 ((g,24,cs)::R) (.slice (some ⟨g,0,none⟩) n n) n (flat xs):=by
 subst hn
 exact ⟨Vy xs,Or.inr ⟨g,_,cs,rfl,List.mem_cons_self,Nat.le_refl _,hc,hz,pf_flat h hz⟩⟩
theorem rn_nil (w:World):RN w.heap.size w none 0 0 []:=RS.nil w
theorem Jeo {n0:Nat} {w0:World} {A R:List (Nat × TypeId × Array Value)} (n cap:Nat) (pa:Option Addr) (xs:List Nat) (w:World) (hn:n≤1000) (r:RN w.heap.size w pa n cap xs) (H:Mem n0 w0 w (A++R)):Calls Tryz.prog 5 #[.slice pa n cap] w fun e w'=>∃ u,e=.returned u∧∃ g cap' R',u=.slice (some ⟨g,0,none⟩) n cap'∧Mem n0 w0 w' (A++R')∧LW 24 4 R' (.slice (some ⟨g,0,none⟩) (n+1) cap') (n+1) (flat (xs++[77]))∧KW R R' (.slice (some ⟨g,0,none⟩) n cap'):=
 (twinNum_any n cap pa xs w hn r).mono fun e w' h => by
  obtain ⟨g,cap',rfl,hb,cur,hg,hat,h1,h2,h3,h4⟩:=h
  exact ⟨_,rfl,g,cap',_,rfl,H.more hb hg hat,⟨by rw [Vy,List.length_append,r.1];rfl,Or.inr ⟨g,cap',cur,rfl,List.mem_cons_self,h1,h2,h3,h4⟩⟩,Jif H hg⟩
theorem at_both (P Q G H X:Nat) (ps:List Nat) (hQ:Q<2^256) (hX:X<2^256):∃ (V:Nat) (e1:Int),V<2^256∧(∀ (n cap:Nat) (pa:Option Addr) (w:World),RN w.heap.size w pa n cap ps→Calls Tryz.prog 20 #[grp P Q G H,.slice pa n cap,num X] w fun e w'=>e=.returned (.tuple #[num V,.int .i64 e1])∧Below w.heap.size w w') ∧
  (∀ (n cap:Nat) (pa:Option Addr) (w:World),RN w.heap.size w pa n cap ps→Calls Tryz.prog 23 #[grp P Q G H,.slice pa n cap,num X] w fun e w'=>e=.returned (.tuple #[num V,.int .i64 e1])∧Below w.heap.size w w'):=by
 rcases h:atB Q X ps with _ | _
 ·exact ⟨0,1,by decide,fun n cap pa w r=>at_no P Q G H X n cap pa ps w hQ hX h r,fun n cap pa w r=>rat_no P Q G H X n cap pa ps w hQ hX r h⟩
 ·exact ⟨_,0,Nat.lt_trans (Wn (atB_iff.1 h).1 _) hQ,fun n cap pa w r=>at_yes P Q G H X n cap pa ps w hQ h r,fun n cap pa w r=>rat_yes P Q G H X n cap pa ps w hQ hX r h⟩
theorem wts_both (P Q G H X:Nat) (xs:List Nat) (hQ:Q<2^256) (hX:X<2^256) (hx:xs.length≤1000):∃ (ws:List Nat) (e1:Int),ws.length≤1000∧(∀ v∈ws,v<2^256)∧(∀ (n0:Nat) (w0:World) (A R:List (Nat × TypeId × Array Value)) (n cap:Nat) (pa:Option Addr) (w:World),RN w.heap.size w pa n cap xs→Mem n0 w0 w (A++R)→Calls Tryz.prog 21 #[grp P Q G H,.slice pa n cap,num X] w fun e w'=>∃ v,e=.returned v∧∃ a k c R',v=.tuple #[.slice a k c,.int .i64 e1]∧ws.length=k∧Mem n0 w0 w' (A++R')∧LW 24 4 R' (.slice a k c) k (flat ws)∧KW R R' (.slice a k c)) ∧
  (∀ (n cap:Nat) (pa:Option Addr) (w:World),RN w.heap.size w pa n cap xs→Calls Tryz.prog 24 #[grp P Q G H,.slice pa n cap,num X] w fun e w'=>∃ v,e=.returned v∧∃ a k c,v=.tuple #[.slice a k c,.int .i64 e1]∧ws.length=k∧Below w.heap.size w w'∧RN w'.heap.size w' a k c ws):=by
 have nil:∀ (n0:Nat) (w0:World) (A R:List (Nat × TypeId × Array Value)) (w w':World) (e:Ending) (e1:Int) (ws:List Nat),ws=[]→Mem n0 w0 w (A++R)→(e=.returned (.tuple #[.slice none 0 0,.int .i64 e1])∧Below w.heap.size w w')→∃ v,e=.returned v∧∃ a k c R',v=.tuple #[.slice a k c,.int .i64 e1]∧ws.length=k∧Mem n0 w0 w' (A++R')∧LW 24 4 R' (.slice a k c) k (flat ws)∧KW R R' (.slice a k c):=fun n0 w0 A R w w' e e1 ws hw HM h=>⟨_,h.1,none,0,0,R,rfl,by rw [hw];rfl,HM.on h.2,by rw [hw];exact LW.nil _ _ _,kw_nil R⟩
 have nilr:∀ (w w':World) (e:Ending) (e1:Int) (ws:List Nat),ws=[]→(e=.returned (.tuple #[.slice none 0 0,.int .i64 e1])∧Below w.heap.size w w')→∃ v,e=.returned v∧∃ a k c,v=.tuple #[.slice a k c,.int .i64 e1]∧ws.length=k∧Below w.heap.size w w'∧RN w'.heap.size w' a k c ws:=fun w w' e e1 ws hw h=>⟨_,h.1,none,0,0,rfl,by rw [hw];rfl,h.2,by rw [hw];exact rn_nil w'⟩
 rcases h:Jih Q X xs with _ | _
 ·refine ⟨[],1,by decide,fun v hv=>by (cases hv),fun n0 w0 A R n cap pa w r HM=>(wts_no P Q G H X n cap pa xs w hQ hX r h).mono fun e w' hh=>nil n0 w0 A R w w' e 1 [] rfl HM hh,fun n cap pa w r=>?_⟩
  by_cases hp:Jbr Q xs=true
  ·refine (rwts_n2 P Q G H X n cap pa xs w hQ hX r hp fun hx2=>?_).mono fun e w' hh=>nilr w w' e 1 [] rfl hh
   have:Jih Q X xs=true:=by unfold Jih Vz;rw [hp];simp [hx2]
   rw [this] at h;cases h
  ·exact (rwts_n1 P Q G H X n cap pa xs w hQ hX r (Bool.eq_false_iff.2 hp)).mono fun e w' hh=>nilr w w' e 1 [] rfl hh
 ·obtain ⟨h1,h2,h3,h4,h5⟩:=wtsB_iff.1 h
  have hp:Jbr Q xs=true:=by unfold Jih at h;rw [Bool.and_eq_true] at h;exact h.2
  by_cases hU:Jii Q xs
  ·by_cases hw:∃ ws,WS Q xs X ws xs.length
   ·obtain ⟨ws,hws⟩:=hw
    refine ⟨ws,0,by rw [hws.1];exact hx,fun v hv=>Nat.lt_trans (hws.2.1 v hv) hQ,fun n0 w0 A R n cap pa w r HM=>(Jha P Q G H X n cap pa xs w hQ hX r (by rw [← r.1];omega) h).mono fun e w' hh=>?_,fun n cap pa w r=>(Jhy P Q G H X n cap pa xs w hQ hX r (by rw [← r.1];exact hx) hp h1 h2 h5).mono fun e w' hh=>?_⟩
    ·obtain ⟨gw,us,rfl,hb,hg,⟨cs,hat,hpf,hz⟩,hus⟩:=hh.1 hU
     obtain rfl:=ws_one hU hus hws
     exact ⟨_,rfl,_,n,n,_,rfl,hus.1.trans r.1,HM.more hb hg hat,lw_pf hpf hz (hus.1.trans r.1) (by have:=r.len;omega),Jif HM hg⟩
    ·obtain ⟨a2,c2,us,rfl,hb,hr2,hus⟩:=hh.1 hU
     obtain rfl:=ws_one hU hus hws
     exact ⟨_,rfl,a2,n,c2,rfl,hus.1.trans r.1,hb,hr2⟩
   ·refine ⟨[],0,by decide,fun v hv=>by (cases hv),fun n0 w0 A R n cap pa w r HM=>(Jha P Q G H X n cap pa xs w hQ hX r (by rw [← r.1];omega) h).mono fun e w' hh=>?_,fun n cap pa w r=>(Jhy P Q G H X n cap pa xs w hQ hX r (by rw [← r.1];exact hx) hp h1 h2 h5).mono fun e w' hh=>?_⟩
    ·obtain ⟨gw,us,_,_,_,_,hus⟩:=hh.1 hU
     exact absurd ⟨us,hus⟩ hw
    ·obtain ⟨a2,c2,us,_,_,_,hus⟩:=hh.1 hU
     exact absurd ⟨us,hus⟩ hw
  ·refine ⟨[],7,by decide,fun v hv=>by (cases hv),fun n0 w0 A R n cap pa w r HM=>(Jha P Q G H X n cap pa xs w hQ hX r (by rw [← r.1];omega) h).mono fun e w' hh=>nil n0 w0 A R w w' e 7 [] rfl HM (hh.2 hU),fun n cap pa w r=>(Jhy P Q G H X n cap pa xs w hQ hX r (by rw [← r.1];exact hx) hp h1 h2 h5).mono fun e w' hh=>nilr w w' e 7 [] rfl (hh.2 hU)⟩
theorem thr_both (P Q G H:Nat) (xs vs:List Nat) (hQ:Q<2^256) (hx:xs.length≤1000):∃ (qs:List Nat) (e1:Int),qs.length≤1000∧(∀ v∈qs,v<2^256)∧(∀ (n0:Nat) (w0:World) (A R:List (Nat × TypeId × Array Value)) (n cap m capv:Nat) (pa pb:Option Addr) (w:World),RN w.heap.size w pa n cap xs→RN w.heap.size w pb m capv vs→Mem n0 w0 w (A++R)→Calls Tryz.prog 22 #[grp P Q G H,.slice pa n cap,.slice pb m capv] w fun e w'=>∃ v,e=.returned v∧∃ a k c R',v=.tuple #[.slice a k c,.int .i64 e1]∧qs.length=k∧Mem n0 w0 w' (A++R')∧LW 24 4 R' (.slice a k c) k (flat qs)∧KW R R' (.slice a k c)) ∧
  (∀ (n cap m capv:Nat) (pa pb:Option Addr) (w:World),RN w.heap.size w pa n cap xs→RN w.heap.size w pb m capv vs→Calls Tryz.prog 25 #[grp P Q G H,.slice pa n cap,.slice pb m capv] w fun e w'=>∃ v,e=.returned v∧∃ a k c,v=.tuple #[.slice a k c,.int .i64 e1]∧qs.length=k∧Below w.heap.size w w'∧RN w'.heap.size w' a k c qs):=by
 have nil:∀ (n0:Nat) (w0:World) (A R:List (Nat × TypeId × Array Value)) (w w':World) (e:Ending) (e1:Int) (qs:List Nat),qs=[]→Mem n0 w0 w (A++R)→(e=.returned (.tuple #[.slice none 0 0,.int .i64 e1])∧Below w.heap.size w w')→∃ v,e=.returned v∧∃ a k c R',v=.tuple #[.slice a k c,.int .i64 e1]∧qs.length=k∧Mem n0 w0 w' (A++R')∧LW 24 4 R' (.slice a k c) k (flat qs)∧KW R R' (.slice a k c):=fun n0 w0 A R w w' e e1 qs hw HM h=>⟨_,h.1,none,0,0,R,rfl,by rw [hw];rfl,HM.on h.2,by rw [hw];exact LW.nil _ _ _,kw_nil R⟩
 have nilr:∀ (w w':World) (e:Ending) (e1:Int) (qs:List Nat),qs=[]→(e=.returned (.tuple #[.slice none 0 0,.int .i64 e1])∧Below w.heap.size w w')→∃ v,e=.returned v∧∃ a k c,v=.tuple #[.slice a k c,.int .i64 e1]∧qs.length=k∧Below w.heap.size w w'∧RN w'.heap.size w' a k c qs:=fun w w' e e1 qs hw h=>⟨_,h.1,none,0,0,rfl,by rw [hw];rfl,h.2,by rw [hw];exact rn_nil w'⟩
 rcases h:Jil Q xs vs with _ | _
 ·refine ⟨[],1,by decide,fun v hv=>by (cases hv),fun n0 w0 A R n cap m capv pa pb w r rv HM=>(thr_no P Q G H n cap m capv pa pb xs vs w hQ r rv h).mono fun e w' hh=>nil n0 w0 A R w w' e 1 [] rfl HM hh,fun n cap m capv pa pb w r rv=>?_⟩
  by_cases hp:Jbr Q xs=true
  ·by_cases hmn:m=n
   ·refine (rthr_n3 P Q G H n cap m capv pa pb xs vs w hQ r rv hp hmn ?_).mono fun e w' hh=>nilr w w' e 1 [] rfl hh
    unfold Jil at h
    rw [decide_eq_true (show vs.length=xs.length by rw [r.1,rv.1,hmn]),hp,Bool.true_and,Bool.and_true] at h
    rw [h,Bool.and_false]
   ·exact (rthr_n2 P Q G H n cap m capv pa pb xs vs w hQ r rv hp hmn).mono fun e w' hh=>nilr w w' e 1 [] rfl hh
  ·exact (rthr_n1 P Q G H n cap m capv pa pb xs vs w hQ r rv (Bool.eq_false_iff.2 hp)).mono fun e w' hh=>nilr w w' e 1 [] rfl hh
 ·obtain ⟨h0,h2,h1,h3,h4,h5⟩:=thrB_iff.1 h
  have h':=h
  unfold Jil at h'
  rw [Bool.and_eq_true,Bool.and_eq_true] at h'
  have hp:Jbr Q xs=true:=h'.2
  have hall:(decide (1<Q) && Vz Q vs)=true:=by rw [decide_eq_true h1,h'.1.2];rfl
  have pos:∀ {n cap:Nat} {pa:Option Addr} {w:World},RN w.heap.size w pa n cap xs→0<n:=fun r=>by rw [← r.1];exact List.length_pos_iff.2 h3
  by_cases hD:Jij Q xs
  ·by_cases hw:∃ qs,TS Q xs vs qs
   ·obtain ⟨qs,hqs⟩:=hw
    refine ⟨qs,0,by rw [hqs.1];exact hx,fun v hv=>Nat.lt_trans (hqs.2.1 v hv) hQ,fun n0 w0 A R n cap m capv pa pb w r rv HM=>(Jhb P Q G H n cap m capv pa pb xs vs w hQ r rv (by rw [← r.1];omega) h).mono fun e w' hh=>?_,fun n cap m capv pa pb w r rv=>(Jhz P Q G H n cap m capv pa pb xs vs w hQ r rv hp (by rw [← r.1,← rv.1,h0]) hall h1 h5 h2 (pos r) (by rw [← r.1];exact hx)).mono fun e w' hh=>?_⟩
    ·obtain ⟨gw,us,rfl,hb,hg,⟨cs,hat,hpf,hz⟩,hus⟩:=hh.1 hD
     obtain rfl:=ts_one hD h0 hus hqs
     exact ⟨_,rfl,_,n,n,_,rfl,hus.1.trans r.1,HM.more hb hg hat,lw_pf hpf hz (hus.1.trans r.1) (by have:=r.len;omega),Jif HM hg⟩
    ·obtain ⟨a2,c2,us,rfl,hb,hr2,hus⟩:=hh.1 hD
     obtain rfl:=ts_one hD h0 hus hqs
     exact ⟨_,rfl,a2,n,c2,rfl,hus.1.trans r.1,hb,hr2⟩
   ·refine ⟨[],0,by decide,fun v hv=>by (cases hv),fun n0 w0 A R n cap m capv pa pb w r rv HM=>(Jhb P Q G H n cap m capv pa pb xs vs w hQ r rv (by rw [← r.1];omega) h).mono fun e w' hh=>?_,fun n cap m capv pa pb w r rv=>(Jhz P Q G H n cap m capv pa pb xs vs w hQ r rv hp (by rw [← r.1,← rv.1,h0]) hall h1 h5 h2 (pos r) (by rw [← r.1];exact hx)).mono fun e w' hh=>?_⟩
    ·obtain ⟨gw,us,_,_,_,_,hus⟩:=hh.1 hD
     exact absurd ⟨us,hus⟩ hw
    ·obtain ⟨a2,c2,us,_,_,_,hus⟩:=hh.1 hD
     exact absurd ⟨us,hus⟩ hw
  ·refine ⟨[],7,by decide,fun v hv=>by (cases hv),fun n0 w0 A R n cap m capv pa pb w r rv HM=>(Jhb P Q G H n cap m capv pa pb xs vs w hQ r rv (by rw [← r.1];omega) h).mono fun e w' hh=>nil n0 w0 A R w w' e 7 [] rfl HM (hh.2 hD),fun n cap m capv pa pb w r rv=>(Jhz P Q G H n cap m capv pa pb xs vs w hQ r rv hp (by rw [← r.1,← rv.1,h0]) hall h1 h5 h2 (pos r) (by rw [← r.1];exact hx)).mono fun e w' hh=>nilr w w' e 7 [] rfl (hh.2 hD)⟩
theorem same_true (n cap m capb:Nat) (pa pb:Option Addr) (xs:List Nat) (w0:World) (r:RN w0.heap.size w0 pa n cap xs) (r2:RN w0.heap.size w0 pb m capb xs):Calls Tryz.prog 13 #[.slice pa n cap,.slice pb m capb] w0 fun e w'=>e=.returned (.bool true)∧Below w0.heap.size w0 w':=by
 have h:=sameL_any n cap m capb pa pb xs xs w0 r r2
 rwa [decide_eq_true rfl] at h
theorem edj_pw {es:List En} (h:es.Pairwise fun a b=>Dj a.l b.l):EDj es:=fun i j e e' hij he he'=>by
 obtain ⟨hi,rfl⟩:=List.getElem?_eq_some_iff.1 he
 obtain ⟨hj,rfl⟩:=List.getElem?_eq_some_iff.1 he'
 rcases Nat.lt_or_gt_of_ne hij with hlt | hlt
 ·exact List.pairwise_iff_getElem.1 h i j hi hj hlt
 ·exact (List.pairwise_iff_getElem.1 h j i hj hi hlt).symm
theorem fa_of {T H:TypeId} {sz:Nat} {m:Nat→List Value} {R:List (Nat × TypeId × Array Value)} {v:Value} {es:List En} (held:LW H 3 R v es.length (enC es)) (h:∀ e∈es,∃ xs,LW T sz R e.l e.k xs):FA T sz H m R v es 0:=⟨held,fun i e he=>by
 obtain ⟨xs,l⟩:=h e (List.mem_of_getElem? he)
 exact ⟨xs,l,fun hi=>absurd hi (Nat.not_lt_zero _)⟩⟩
def Jfq:Nat→Value:=fun _=>.slice none 0 0
section
variable {x y:Operand} {dst:Option Tmp} {ty:TypeId} {pos:String} {after:Array Edge} {guard:Option (Nat × Bool)} {ρ:Operand→Value} {w:World} {g o:Nat}
theorem Tryz.sizeBk:(Tryz.prog.info? 57).map (·.size)=some 18:=by kernel_rfl
theorem o_buildBk:(execOp ρ ⟨dst,.build 57 #[],ty,pos,after,guard⟩).run Tryz.prog w=.ok (.value (.agg (bkc 0 Jfq))) w:=by
 have h:(execOp ρ ⟨dst,.build 57 #[],ty,pos,after,guard⟩).run Tryz.prog w=.ok (.value (.agg #[.int .i64 0,.slice none 0 0,.slice none 0 0,.slice none 0 0,.slice none 0 0,.slice none 0 0,.slice none 0 0,.slice none 0 0,.slice none 0 0,.slice none 0 0,.slice none 0 0,.slice none 0 0,.slice none 0 0,.slice none 0 0,.slice none 0 0,.slice none 0 0,.slice none 0 0,.slice none 0 0])) w:=by simp [execOp,go_sem]
 exact h
theorem o_allocBk:(execOp ρ ⟨dst,.alloc 57,ty,pos,after,guard⟩).run Tryz.prog w=.ok (.value (.pointer (some ⟨w.heap.size,0,none⟩))) (w.alloc (.cells (bkc 0 Jfq) 57)):=by
 have h:(execOp ρ ⟨dst,.alloc 57,ty,pos,after,guard⟩).run Tryz.prog w=.ok (.value (.pointer (some ⟨w.heap.size,0,none⟩))) (w.alloc (.cells #[.int .i64 0,.slice none 0 0,.slice none 0 0,.slice none 0 0,.slice none 0 0,.slice none 0 0,.slice none 0 0,.slice none 0 0,.slice none 0 0,.slice none 0 0,.slice none 0 0,.slice none 0 0,.slice none 0 0,.slice none 0 0,.slice none 0 0,.slice none 0 0,.slice none 0 0,.slice none 0 0] 57)):=by simp [execOp,go_sem]
 exact h
theorem o_storeBk (hx:ρ x=.pointer (some ⟨g,0,none⟩)) (hy:ρ y=.agg (bkc 0 Jfq)) (h:At w g 57 (bkc 0 Jfq)):(execOp ρ ⟨dst,.store 57 x y,ty,pos,after,guard⟩).run Tryz.prog w=.ok .skip (puts w g 0 (bkc 0 Jfq).toList):=by
 have ht:w.there g 0 18:=fun j hj=>⟨by
  rw [Nat.zero_add,h.cell,Array.getElem?_eq_getElem (show j<(bkc 0 Jfq).size from hj)];rfl,h.frozen _⟩
 have:=run_storeVar_mid (P:=Tryz.prog) w g 0 57 (bkc 0 Jfq) ht Tryz.sizeBk (by simp [bkc,Jfq,Value.oneCell'])
 rw [Jgd]
 simp only [execOp,hx,hy,Instr.storeAt,Instr.sureAddr,Sem.run_bind,Sem.run_pure,Result.andThen_ok,this]
end
theorem setsBk:Jau (bkc 0 Jfq) 0 (bkc 0 Jfq).toList=bkc 0 Jfq:=by simp [Jau,bkc,Jfq]
end Go.Proofs.YtmmgmljkmmgjdaaGreatDoor
