/-
 sigs: Sign,Check.
-/
import Derived.Deep.Cut
import Derived.Test.YtlphnfajhpkleaaDoorMSg2
import Derived.Test.YtlphnfajhpkleaaDoorMSmall
namespace Go.Proofs.YtlphnfajhpkleaaDoor
set_option maxRecDepth 100000
open Go.RowKit
set_option linter.unusedSimpArgs false
set_option linter.unusedVariables false
attribute [local go_sem ↓] Go.wp_at_zero Go.wp_at_succ

section
variable {a:Act} {N:Nat} {L:List (Nat × Value)} {df:List Deferred} {w:World}
theorem res_SE {fn:Func} (F:Fr a N L df) {s t gs C S:Nat} {v:Value} (hf:fn.results=#[.cell s 30,.tmp t]) (h1:lk L s=some (.pointer (some ⟨gs,0,none⟩))) (h2:lk L t=some v)
  (A1:At w gs 30 (sgc C S)):(results fn a.tmps).run Tryd.prog w=.ok (.tuple #[sgv C S,v]) w:=by
 have e1:=F.get s _ h1
 have e2:=F.get t _ h2
 rw [Array.getD_eq_getD_getElem?] at e1 e2
 have c0:w.cell? ⟨gs,0,none⟩=some (.int .u64 (wd C 0:Nat)):=A1.cell 0
 have c1:w.cell? ⟨gs,1,none⟩=some (.int .u64 (wd C 1:Nat)):=A1.cell 1
 have c2:w.cell? ⟨gs,2,none⟩=some (.int .u64 (wd C 2:Nat)):=A1.cell 2
 have c3:w.cell? ⟨gs,3,none⟩=some (.int .u64 (wd C 3:Nat)):=A1.cell 3
 have c4:w.cell? ⟨gs,4,none⟩=some (.int .u64 (wd S 0:Nat)):=A1.cell 4
 have c5:w.cell? ⟨gs,5,none⟩=some (.int .u64 (wd S 1:Nat)):=A1.cell 5
 have c6:w.cell? ⟨gs,6,none⟩=some (.int .u64 (wd S 2:Nat)):=A1.cell 6
 have c7:w.cell? ⟨gs,7,none⟩=some (.int .u64 (wd S 3:Nat)):=A1.cell 7
 simp [results,hf,go_sem,e1,e2,c0,c1,c2,c3,c4,c5,c6,c7]
 rfl
end
set_option maxRecDepth 100000 in
set_option maxHeartbeats 800000 in
theorem sign_n0 (P Q G H S D:Nat) (h:Nat→Nat) (hP:P<2^256) (hQ:Q<2^256) (hG:G<2^256) (hS:S<2^256) (hD:D<2^256) (w0:World) (h0:decide (S=0)=true):Calls Tryd.prog 10 #[grp P Q G H,num S,hsv h,num D] w0 fun e w'=>e=.returned (.tuple #[sgv 0 0,.int .i64 1])∧Below w0.heap.size w0 w':=by
 refine sx_enter (args:=[grp P Q G H,num S,hsv h,num D]) Tryd.func10 rfl Tryd.ntmps10 (by rfl) fun a F HM=>?_
 repeat (first | refine ex_then ?_ | refine ex_block ?_ | refine wp_seq ?_ | refine wp_block ?_ | refine wp_skip ?_)
 refine wp_region_lit ?_
 refine lx_new F HM (wanted_none rfl _) rfl (by rfl) (o_boxG (F.ev rfl)) fun a w gg F HM=>?_
 refine lx_new F HM (wanted_none rfl _) rfl (by rfl) (o_boxN (F.ev rfl)) fun a w gs F HM=>?_
 refine lx_new F HM (wanted_none rfl _) rfl (by rfl) (o_boxH (F.ev rfl)) fun a w gh F HM=>?_
 refine lx_new F HM (wanted_none rfl _) rfl (by rfl) (o_boxN (F.ev rfl)) fun a w gd F HM=>?_
 refine lx_new F HM (wanted_none rfl _) rfl (by rfl) (o_allocS) fun a w go F HM=>?_
 refine lx_value (v:=.int .i64 0) F (wanted_none rfl _) rfl (by rfl) (o_assign rfl) fun a F=>?_
 refine lx_nil ?_
 repeat (first | refine ex_then ?_ | refine ex_block ?_ | refine wp_seq ?_ | refine wp_block ?_ | refine wp_skip ?_)
 refine wp_region_lit ?_
 refine lx_value (v:=num 0) F (wanted_none rfl _) rfl (by rfl) (o_build0) fun a F=>?_
 refine lx_new F HM (wanted_none rfl _) rfl (by rfl) (o_allocN) fun a w gz F HM=>?_
 refine lx_store F HM (wanted_none rfl _) rfl (k:=0) rfl (o_storeN (F.ev rfl) (F.ev rfl) (HM.get 0 rfl)) (M2:=[(gz,24,ncs 0),(go,30,sgc 0 0),(gd,24,ncs D),(gh,28,hcs h),(gs,24,ncs S),(gg,26,gcs P Q G H)]) (rfl) fun w HM=>?_
 refine lx_nil ?_
 repeat (first | refine ex_then ?_ | refine ex_block ?_ | refine wp_seq ?_ | refine wp_block ?_ | refine wp_skip ?_)
 refine wp_region_lit ?_
 refine lx_value (v:=num S) F (wanted_none rfl _) rfl (by rfl) (o_loadN (F.ev rfl) (HM.get 4 rfl)) fun a F=>?_
 refine lx_value (v:=num 0) F (wanted_none rfl _) rfl (by rfl) (o_loadN (F.ev rfl) (HM.get 0 rfl)) fun a F=>?_
 refine lx_value (v:=.bool true) F (wanted_none rfl _) rfl (by rfl) (o_eqlN hS (by decide) h0 (F.ev rfl) (F.ev rfl)) fun a F=>?_
 refine lx_value (v:=.bool true) F (wanted_none rfl _) rfl (by rfl) (o_move (F.ev rfl)) fun a F=>?_
 refine lx_pass F (F.want (t:=24) (c:=true) rfl rfl rfl (by rfl) rfl) rfl (by rfl) fun a F=>?_
 refine lx_pass F (F.want (t:=24) (c:=true) rfl rfl rfl (by rfl) rfl) rfl (by rfl) fun a F=>?_
 refine lx_pass F (F.want (t:=24) (c:=true) rfl rfl rfl (by rfl) rfl) rfl (by rfl) fun a F=>?_
 refine lx_value (v:=.bool true) F (wanted_none rfl _) rfl (by rfl) (o_pick (b:=true) (r:=.bool true) (F.ev rfl) rfl (F.ev rfl) rfl) fun a F=>?_
 refine lx_value (v:=.bool true) F (wanted_none rfl _) rfl (by rfl) (o_move (F.ev rfl)) fun a F=>?_
 refine lx_pass F (F.want (t:=29) (c:=true) rfl rfl rfl (by rfl) rfl) rfl (by rfl) fun a F=>?_
 refine lx_pass F (F.want (t:=29) (c:=true) rfl rfl rfl (by rfl) rfl) rfl (by rfl) fun a F=>?_
 refine lx_pass F (F.want (t:=29) (c:=true) rfl rfl rfl (by rfl) rfl) rfl (by rfl) fun a F=>?_
 refine lx_pass F (F.want (t:=29) (c:=true) rfl rfl rfl (by rfl) rfl) rfl (by rfl) fun a F=>?_
 refine lx_pass F (F.want (t:=29) (c:=true) rfl rfl rfl (by rfl) rfl) rfl (by rfl) fun a F=>?_
 refine lx_pass F (F.want (t:=29) (c:=true) rfl rfl rfl (by rfl) rfl) rfl (by rfl) fun a F=>?_
 refine lx_value (v:=.bool true) F (wanted_none rfl _) rfl (by rfl) (o_pick (b:=true) (r:=.bool true) (F.ev rfl) rfl (F.ev rfl) rfl) fun a F=>?_
 refine lx_nil ?_
 repeat (first | refine ex_then ?_ | refine ex_block ?_ | refine wp_seq ?_ | refine wp_block ?_ | refine wp_skip ?_)
 refine wp_cond_true (F.ev rfl) ?_
 repeat (first | refine ex_then ?_ | refine ex_block ?_ | refine wp_seq ?_ | refine wp_block ?_ | refine wp_skip ?_)
 refine wp_region_lit ?_
 refine lx_value (v:=sgv 0 0) F (wanted_none rfl _) rfl (by rfl) (o_buildS0) fun a F=>?_
 refine lx_store F HM (wanted_none rfl _) rfl (k:=1) rfl (o_stS (F.ev rfl) (F.ev rfl) (HM.get 1 rfl)) (M2:=[(gz,24,ncs 0),(go,30,sgc 0 0),(gd,24,ncs D),(gh,28,hcs h),(gs,24,ncs S),(gg,26,gcs P Q G H)]) (by rw [sets_sg];rfl) fun w HM=>?_
 refine lx_value (v:=.int .i64 1) F (wanted_none rfl _) rfl (by rfl) (o_assign rfl) fun a F=>?_
 refine lx_nil ?_
 repeat (first | refine ex_then ?_ | refine ex_block ?_ | refine wp_seq ?_ | refine wp_block ?_ | refine wp_skip ?_)
 refine wp_ret ?_
 repeat (first | refine ex_thenR ?_ | refine ex_blockR ?_)
 exact sx_ret F HM (res_SE F (s:=8) (t:=9) rfl rfl rfl (HM.get 1 rfl))

set_option maxRecDepth 100000 in
set_option maxHeartbeats 800000 in
theorem sign_n1 (P Q G H S D:Nat) (h:Nat→Nat) (hP:P<2^256) (hQ:Q<2^256) (hG:G<2^256) (hS:S<2^256) (hD:D<2^256) (w0:World) (h0:decide (S=0)=false) (h1:decide (D=0)=true):Calls Tryd.prog 10 #[grp P Q G H,num S,hsv h,num D] w0 fun e w'=>e=.returned (.tuple #[sgv 0 0,.int .i64 1])∧Below w0.heap.size w0 w':=by
 refine sx_enter (args:=[grp P Q G H,num S,hsv h,num D]) Tryd.func10 rfl Tryd.ntmps10 (by rfl) fun a F HM=>?_
 repeat (first | refine ex_then ?_ | refine ex_block ?_ | refine wp_seq ?_ | refine wp_block ?_ | refine wp_skip ?_)
 refine wp_region_lit ?_
 refine lx_new F HM (wanted_none rfl _) rfl (by rfl) (o_boxG (F.ev rfl)) fun a w gg F HM=>?_
 refine lx_new F HM (wanted_none rfl _) rfl (by rfl) (o_boxN (F.ev rfl)) fun a w gs F HM=>?_
 refine lx_new F HM (wanted_none rfl _) rfl (by rfl) (o_boxH (F.ev rfl)) fun a w gh F HM=>?_
 refine lx_new F HM (wanted_none rfl _) rfl (by rfl) (o_boxN (F.ev rfl)) fun a w gd F HM=>?_
 refine lx_new F HM (wanted_none rfl _) rfl (by rfl) (o_allocS) fun a w go F HM=>?_
 refine lx_value (v:=.int .i64 0) F (wanted_none rfl _) rfl (by rfl) (o_assign rfl) fun a F=>?_
 refine lx_nil ?_
 repeat (first | refine ex_then ?_ | refine ex_block ?_ | refine wp_seq ?_ | refine wp_block ?_ | refine wp_skip ?_)
 refine wp_region_lit ?_
 refine lx_value (v:=num 0) F (wanted_none rfl _) rfl (by rfl) (o_build0) fun a F=>?_
 refine lx_new F HM (wanted_none rfl _) rfl (by rfl) (o_allocN) fun a w gz F HM=>?_
 refine lx_store F HM (wanted_none rfl _) rfl (k:=0) rfl (o_storeN (F.ev rfl) (F.ev rfl) (HM.get 0 rfl)) (M2:=[(gz,24,ncs 0),(go,30,sgc 0 0),(gd,24,ncs D),(gh,28,hcs h),(gs,24,ncs S),(gg,26,gcs P Q G H)]) (rfl) fun w HM=>?_
 refine lx_nil ?_
 repeat (first | refine ex_then ?_ | refine ex_block ?_ | refine wp_seq ?_ | refine wp_block ?_ | refine wp_skip ?_)
 refine wp_region_lit ?_
 refine lx_value (v:=num S) F (wanted_none rfl _) rfl (by rfl) (o_loadN (F.ev rfl) (HM.get 4 rfl)) fun a F=>?_
 refine lx_value (v:=num 0) F (wanted_none rfl _) rfl (by rfl) (o_loadN (F.ev rfl) (HM.get 0 rfl)) fun a F=>?_
 refine lx_value (v:=.bool false) F (wanted_none rfl _) rfl (by rfl) (o_eqlN hS (by decide) h0 (F.ev rfl) (F.ev rfl)) fun a F=>?_
 refine lx_value (v:=.bool false) F (wanted_none rfl _) rfl (by rfl) (o_move (F.ev rfl)) fun a F=>?_
 refine lx_value (v:=num D) F (F.want (t:=24) (c:=false) rfl rfl rfl (by rfl) rfl) rfl (by rfl) (o_loadN (F.ev rfl) (HM.get 2 rfl)) fun a F=>?_
 refine lx_value (v:=num 0) F (F.want (t:=24) (c:=false) rfl rfl rfl (by rfl) rfl) rfl (by rfl) (o_loadN (F.ev rfl) (HM.get 0 rfl)) fun a F=>?_
 refine lx_value (v:=.bool true) F (F.want (t:=24) (c:=false) rfl rfl rfl (by rfl) rfl) rfl (by rfl) (o_eqlN hD (by decide) h1 (F.ev rfl) (F.ev rfl)) fun a F=>?_
 refine lx_value (v:=.bool true) F (wanted_none rfl _) rfl (by rfl) (o_pick (b:=false) (r:=.bool true) (F.ev rfl) rfl (F.ev rfl) rfl) fun a F=>?_
 refine lx_value (v:=.bool true) F (wanted_none rfl _) rfl (by rfl) (o_move (F.ev rfl)) fun a F=>?_
 refine lx_pass F (F.want (t:=29) (c:=true) rfl rfl rfl (by rfl) rfl) rfl (by rfl) fun a F=>?_
 refine lx_pass F (F.want (t:=29) (c:=true) rfl rfl rfl (by rfl) rfl) rfl (by rfl) fun a F=>?_
 refine lx_pass F (F.want (t:=29) (c:=true) rfl rfl rfl (by rfl) rfl) rfl (by rfl) fun a F=>?_
 refine lx_pass F (F.want (t:=29) (c:=true) rfl rfl rfl (by rfl) rfl) rfl (by rfl) fun a F=>?_
 refine lx_pass F (F.want (t:=29) (c:=true) rfl rfl rfl (by rfl) rfl) rfl (by rfl) fun a F=>?_
 refine lx_pass F (F.want (t:=29) (c:=true) rfl rfl rfl (by rfl) rfl) rfl (by rfl) fun a F=>?_
 refine lx_value (v:=.bool true) F (wanted_none rfl _) rfl (by rfl) (o_pick (b:=true) (r:=.bool true) (F.ev rfl) rfl (F.ev rfl) rfl) fun a F=>?_
 refine lx_nil ?_
 repeat (first | refine ex_then ?_ | refine ex_block ?_ | refine wp_seq ?_ | refine wp_block ?_ | refine wp_skip ?_)
 refine wp_cond_true (F.ev rfl) ?_
 repeat (first | refine ex_then ?_ | refine ex_block ?_ | refine wp_seq ?_ | refine wp_block ?_ | refine wp_skip ?_)
 refine wp_region_lit ?_
 refine lx_value (v:=sgv 0 0) F (wanted_none rfl _) rfl (by rfl) (o_buildS0) fun a F=>?_
 refine lx_store F HM (wanted_none rfl _) rfl (k:=1) rfl (o_stS (F.ev rfl) (F.ev rfl) (HM.get 1 rfl)) (M2:=[(gz,24,ncs 0),(go,30,sgc 0 0),(gd,24,ncs D),(gh,28,hcs h),(gs,24,ncs S),(gg,26,gcs P Q G H)]) (by rw [sets_sg];rfl) fun w HM=>?_
 refine lx_value (v:=.int .i64 1) F (wanted_none rfl _) rfl (by rfl) (o_assign rfl) fun a F=>?_
 refine lx_nil ?_
 repeat (first | refine ex_then ?_ | refine ex_block ?_ | refine wp_seq ?_ | refine wp_block ?_ | refine wp_skip ?_)
 refine wp_ret ?_
 repeat (first | refine ex_thenR ?_ | refine ex_blockR ?_)
 exact sx_ret F HM (res_SE F (s:=8) (t:=9) rfl rfl rfl (HM.get 1 rfl))

set_option maxRecDepth 100000 in
set_option maxHeartbeats 800000 in
theorem sign_n2 (P Q G H S D:Nat) (h:Nat→Nat) (hP:P<2^256) (hQ:Q<2^256) (hG:G<2^256) (hS:S<2^256) (hD:D<2^256) (w0:World) (h0:decide (S=0)=false) (h1:decide (D=0)=false) (he:expB Q [S,D]=false):Calls Tryd.prog 10 #[grp P Q G H,num S,hsv h,num D] w0 fun e w'=>e=.returned (.tuple #[sgv 0 0,.int .i64 1])∧Below w0.heap.size w0 w':=by
 refine sx_enter (args:=[grp P Q G H,num S,hsv h,num D]) Tryd.func10 rfl Tryd.ntmps10 (by rfl) fun a F HM=>?_
 repeat (first | refine ex_then ?_ | refine ex_block ?_ | refine wp_seq ?_ | refine wp_block ?_ | refine wp_skip ?_)
 refine wp_region_lit ?_
 refine lx_new F HM (wanted_none rfl _) rfl (by rfl) (o_boxG (F.ev rfl)) fun a w gg F HM=>?_
 refine lx_new F HM (wanted_none rfl _) rfl (by rfl) (o_boxN (F.ev rfl)) fun a w gs F HM=>?_
 refine lx_new F HM (wanted_none rfl _) rfl (by rfl) (o_boxH (F.ev rfl)) fun a w gh F HM=>?_
 refine lx_new F HM (wanted_none rfl _) rfl (by rfl) (o_boxN (F.ev rfl)) fun a w gd F HM=>?_
 refine lx_new F HM (wanted_none rfl _) rfl (by rfl) (o_allocS) fun a w go F HM=>?_
 refine lx_value (v:=.int .i64 0) F (wanted_none rfl _) rfl (by rfl) (o_assign rfl) fun a F=>?_
 refine lx_nil ?_
 repeat (first | refine ex_then ?_ | refine ex_block ?_ | refine wp_seq ?_ | refine wp_block ?_ | refine wp_skip ?_)
 refine wp_region_lit ?_
 refine lx_value (v:=num 0) F (wanted_none rfl _) rfl (by rfl) (o_build0) fun a F=>?_
 refine lx_new F HM (wanted_none rfl _) rfl (by rfl) (o_allocN) fun a w gz F HM=>?_
 refine lx_store F HM (wanted_none rfl _) rfl (k:=0) rfl (o_storeN (F.ev rfl) (F.ev rfl) (HM.get 0 rfl)) (M2:=[(gz,24,ncs 0),(go,30,sgc 0 0),(gd,24,ncs D),(gh,28,hcs h),(gs,24,ncs S),(gg,26,gcs P Q G H)]) (rfl) fun w HM=>?_
 refine lx_nil ?_
 repeat (first | refine ex_then ?_ | refine ex_block ?_ | refine wp_seq ?_ | refine wp_block ?_ | refine wp_skip ?_)
 refine wp_region_lit ?_
 refine lx_value (v:=num S) F (wanted_none rfl _) rfl (by rfl) (o_loadN (F.ev rfl) (HM.get 4 rfl)) fun a F=>?_
 refine lx_value (v:=num 0) F (wanted_none rfl _) rfl (by rfl) (o_loadN (F.ev rfl) (HM.get 0 rfl)) fun a F=>?_
 refine lx_value (v:=.bool false) F (wanted_none rfl _) rfl (by rfl) (o_eqlN hS (by decide) h0 (F.ev rfl) (F.ev rfl)) fun a F=>?_
 refine lx_value (v:=.bool false) F (wanted_none rfl _) rfl (by rfl) (o_move (F.ev rfl)) fun a F=>?_
 refine lx_value (v:=num D) F (F.want (t:=24) (c:=false) rfl rfl rfl (by rfl) rfl) rfl (by rfl) (o_loadN (F.ev rfl) (HM.get 2 rfl)) fun a F=>?_
 refine lx_value (v:=num 0) F (F.want (t:=24) (c:=false) rfl rfl rfl (by rfl) rfl) rfl (by rfl) (o_loadN (F.ev rfl) (HM.get 0 rfl)) fun a F=>?_
 refine lx_value (v:=.bool false) F (F.want (t:=24) (c:=false) rfl rfl rfl (by rfl) rfl) rfl (by rfl) (o_eqlN hD (by decide) h1 (F.ev rfl) (F.ev rfl)) fun a F=>?_
 refine lx_value (v:=.bool false) F (wanted_none rfl _) rfl (by rfl) (o_pick (b:=false) (r:=.bool false) (F.ev rfl) rfl (F.ev rfl) rfl) fun a F=>?_
 refine lx_value (v:=.bool false) F (wanted_none rfl _) rfl (by rfl) (o_move (F.ev rfl)) fun a F=>?_
 refine lx_value (v:=grp P Q G H) F (F.want (t:=29) (c:=false) rfl rfl rfl (by rfl) rfl) rfl (by rfl) (o_loadG (F.ev rfl) (HM.get 5 rfl)) fun a F=>?_
 refine lx_value (v:=num S) F (F.want (t:=29) (c:=false) rfl rfl rfl (by rfl) rfl) rfl (by rfl) (o_loadN (F.ev rfl) (HM.get 4 rfl)) fun a F=>?_
 refine lx_value (v:=num D) F (F.want (t:=29) (c:=false) rfl rfl rfl (by rfl) rfl) rfl (by rfl) (o_loadN (F.ev rfl) (HM.get 2 rfl)) fun a F=>?_
 refine lx_rowM F HM (F.want (t:=29) (c:=false) rfl rfl rfl (by rfl) rfl) rfl (by rfl) (o_slice2 (F.ev rfl) (F.ev rfl)) fun a w gr F HM=>?_
 refine lx_call F (F.want (t:=29) (c:=false) rfl rfl rfl (by rfl) rfl) rfl (by rfl) (run_callF Tryd.func22 (by kernel_rfl) (by rfl) (.cons (F.ev rfl) (.cons (F.ev rfl) .nil)) _) (areS_is P Q G H 2 2 _ [S,D] _ he hQ (rn_2 (HM.get 0 rfl) hS hD)) fun a w z F=>?_
 replace HM:=HM.on z
 clear z
 refine lx_value (v:=.bool true) F (F.want (t:=29) (c:=false) rfl rfl rfl (by rfl) rfl) rfl (by rfl) (o_not (b:=false) (r:=true) (F.ev rfl) rfl) fun a F=>?_
 refine lx_value (v:=.bool true) F (wanted_none rfl _) rfl (by rfl) (o_pick (b:=false) (r:=.bool true) (F.ev rfl) rfl (F.ev rfl) rfl) fun a F=>?_
 refine lx_nil ?_
 repeat (first | refine ex_then ?_ | refine ex_block ?_ | refine wp_seq ?_ | refine wp_block ?_ | refine wp_skip ?_)
 refine wp_cond_true (F.ev rfl) ?_
 repeat (first | refine ex_then ?_ | refine ex_block ?_ | refine wp_seq ?_ | refine wp_block ?_ | refine wp_skip ?_)
 refine wp_region_lit ?_
 refine lx_value (v:=sgv 0 0) F (wanted_none rfl _) rfl (by rfl) (o_buildS0) fun a F=>?_
 refine lx_store F HM (wanted_none rfl _) rfl (k:=2) rfl (o_stS (F.ev rfl) (F.ev rfl) (HM.get 2 rfl)) (M2:=[(gr,24,(rows2 S D)),(gz,24,ncs 0),(go,30,sgc 0 0),(gd,24,ncs D),(gh,28,hcs h),(gs,24,ncs S),(gg,26,gcs P Q G H)]) (by rw [sets_sg];rfl) fun w HM=>?_
 refine lx_value (v:=.int .i64 1) F (wanted_none rfl _) rfl (by rfl) (o_assign rfl) fun a F=>?_
 refine lx_nil ?_
 repeat (first | refine ex_then ?_ | refine ex_block ?_ | refine wp_seq ?_ | refine wp_block ?_ | refine wp_skip ?_)
 refine wp_ret ?_
 repeat (first | refine ex_thenR ?_ | refine ex_blockR ?_)
 exact sx_ret F HM (res_SE F (s:=8) (t:=9) rfl rfl rfl (HM.get 2 rfl))

set_option maxRecDepth 100000 in
set_option maxHeartbeats 800000 in
theorem sign_n3 (P Q G H S D:Nat) (h:Nat→Nat) (hP:P<2^256) (hQ:Q<2^256) (hG:G<2^256) (hS:S<2^256) (hD:D<2^256) (w0:World) (h0:decide (S=0)=false) (h1:decide (D=0)=false) (he:expB Q [S,D]=true) (hm:mayB P G=false):Calls Tryd.prog 10 #[grp P Q G H,num S,hsv h,num D] w0 fun e w'=>e=.returned (.tuple #[sgv 0 0,.int .i64 1])∧Below w0.heap.size w0 w':=by
 refine sx_enter (args:=[grp P Q G H,num S,hsv h,num D]) Tryd.func10 rfl Tryd.ntmps10 (by rfl) fun a F HM=>?_
 repeat (first | refine ex_then ?_ | refine ex_block ?_ | refine wp_seq ?_ | refine wp_block ?_ | refine wp_skip ?_)
 refine wp_region_lit ?_
 refine lx_new F HM (wanted_none rfl _) rfl (by rfl) (o_boxG (F.ev rfl)) fun a w gg F HM=>?_
 refine lx_new F HM (wanted_none rfl _) rfl (by rfl) (o_boxN (F.ev rfl)) fun a w gs F HM=>?_
 refine lx_new F HM (wanted_none rfl _) rfl (by rfl) (o_boxH (F.ev rfl)) fun a w gh F HM=>?_
 refine lx_new F HM (wanted_none rfl _) rfl (by rfl) (o_boxN (F.ev rfl)) fun a w gd F HM=>?_
 refine lx_new F HM (wanted_none rfl _) rfl (by rfl) (o_allocS) fun a w go F HM=>?_
 refine lx_value (v:=.int .i64 0) F (wanted_none rfl _) rfl (by rfl) (o_assign rfl) fun a F=>?_
 refine lx_nil ?_
 repeat (first | refine ex_then ?_ | refine ex_block ?_ | refine wp_seq ?_ | refine wp_block ?_ | refine wp_skip ?_)
 refine wp_region_lit ?_
 refine lx_value (v:=num 0) F (wanted_none rfl _) rfl (by rfl) (o_build0) fun a F=>?_
 refine lx_new F HM (wanted_none rfl _) rfl (by rfl) (o_allocN) fun a w gz F HM=>?_
 refine lx_store F HM (wanted_none rfl _) rfl (k:=0) rfl (o_storeN (F.ev rfl) (F.ev rfl) (HM.get 0 rfl)) (M2:=[(gz,24,ncs 0),(go,30,sgc 0 0),(gd,24,ncs D),(gh,28,hcs h),(gs,24,ncs S),(gg,26,gcs P Q G H)]) (rfl) fun w HM=>?_
 refine lx_nil ?_
 repeat (first | refine ex_then ?_ | refine ex_block ?_ | refine wp_seq ?_ | refine wp_block ?_ | refine wp_skip ?_)
 refine wp_region_lit ?_
 refine lx_value (v:=num S) F (wanted_none rfl _) rfl (by rfl) (o_loadN (F.ev rfl) (HM.get 4 rfl)) fun a F=>?_
 refine lx_value (v:=num 0) F (wanted_none rfl _) rfl (by rfl) (o_loadN (F.ev rfl) (HM.get 0 rfl)) fun a F=>?_
 refine lx_value (v:=.bool false) F (wanted_none rfl _) rfl (by rfl) (o_eqlN hS (by decide) h0 (F.ev rfl) (F.ev rfl)) fun a F=>?_
 refine lx_value (v:=.bool false) F (wanted_none rfl _) rfl (by rfl) (o_move (F.ev rfl)) fun a F=>?_
 refine lx_value (v:=num D) F (F.want (t:=24) (c:=false) rfl rfl rfl (by rfl) rfl) rfl (by rfl) (o_loadN (F.ev rfl) (HM.get 2 rfl)) fun a F=>?_
 refine lx_value (v:=num 0) F (F.want (t:=24) (c:=false) rfl rfl rfl (by rfl) rfl) rfl (by rfl) (o_loadN (F.ev rfl) (HM.get 0 rfl)) fun a F=>?_
 refine lx_value (v:=.bool false) F (F.want (t:=24) (c:=false) rfl rfl rfl (by rfl) rfl) rfl (by rfl) (o_eqlN hD (by decide) h1 (F.ev rfl) (F.ev rfl)) fun a F=>?_
 refine lx_value (v:=.bool false) F (wanted_none rfl _) rfl (by rfl) (o_pick (b:=false) (r:=.bool false) (F.ev rfl) rfl (F.ev rfl) rfl) fun a F=>?_
 refine lx_value (v:=.bool false) F (wanted_none rfl _) rfl (by rfl) (o_move (F.ev rfl)) fun a F=>?_
 refine lx_value (v:=grp P Q G H) F (F.want (t:=29) (c:=false) rfl rfl rfl (by rfl) rfl) rfl (by rfl) (o_loadG (F.ev rfl) (HM.get 5 rfl)) fun a F=>?_
 refine lx_value (v:=num S) F (F.want (t:=29) (c:=false) rfl rfl rfl (by rfl) rfl) rfl (by rfl) (o_loadN (F.ev rfl) (HM.get 4 rfl)) fun a F=>?_
 refine lx_value (v:=num D) F (F.want (t:=29) (c:=false) rfl rfl rfl (by rfl) rfl) rfl (by rfl) (o_loadN (F.ev rfl) (HM.get 2 rfl)) fun a F=>?_
 refine lx_rowM F HM (F.want (t:=29) (c:=false) rfl rfl rfl (by rfl) rfl) rfl (by rfl) (o_slice2 (F.ev rfl) (F.ev rfl)) fun a w gr F HM=>?_
 refine lx_call F (F.want (t:=29) (c:=false) rfl rfl rfl (by rfl) rfl) rfl (by rfl) (run_callF Tryd.func22 (by kernel_rfl) (by rfl) (.cons (F.ev rfl) (.cons (F.ev rfl) .nil)) _) (areS_is P Q G H 2 2 _ [S,D] _ he hQ (rn_2 (HM.get 0 rfl) hS hD)) fun a w z F=>?_
 replace HM:=HM.on z
 clear z
 refine lx_value (v:=.bool false) F (F.want (t:=29) (c:=false) rfl rfl rfl (by rfl) rfl) rfl (by rfl) (o_not (b:=true) (r:=false) (F.ev rfl) rfl) fun a F=>?_
 refine lx_value (v:=.bool false) F (wanted_none rfl _) rfl (by rfl) (o_pick (b:=false) (r:=.bool false) (F.ev rfl) rfl (F.ev rfl) rfl) fun a F=>?_
 refine lx_nil ?_
 repeat (first | refine ex_then ?_ | refine ex_block ?_ | refine wp_seq ?_ | refine wp_block ?_ | refine wp_skip ?_)
 refine wp_cond_false (F.ev rfl) ?_
 replace HM:=HM.erase 0 (M2:=[(gz,24,ncs 0),(go,30,sgc 0 0),(gd,24,ncs D),(gh,28,hcs h),(gs,24,ncs S),(gg,26,gcs P Q G H)]) rfl
 repeat (first | refine ex_then ?_ | refine ex_block ?_ | refine wp_seq ?_ | refine wp_block ?_ | refine wp_skip ?_)
 refine wp_region_lit ?_
 refine lx_value (v:=grp P Q G H) F (wanted_none rfl _) rfl (by rfl) (o_loadG (F.ev rfl) (HM.get 5 rfl)) fun a F=>?_
 refine lx_value (v:=.pointer (some ⟨gg,8,none⟩)) F (wanted_none rfl _) rfl (by rfl) (o_fieldG2 (F.ev rfl)) fun a F=>?_
 refine lx_value (v:=num G) F (wanted_none rfl _) rfl (by rfl) (o_loadG2 (F.ev rfl) (HM.get 5 rfl)) fun a F=>?_
 refine lx_value (v:=num S) F (wanted_none rfl _) rfl (by rfl) (o_loadN (F.ev rfl) (HM.get 4 rfl)) fun a F=>?_
 refine lx_call F (wanted_none rfl _) rfl (by rfl) (run_callF Tryd.func9 (by kernel_rfl) (by rfl) (.cons (F.ev rfl) (.cons (F.ev rfl) (.cons (F.ev rfl) .nil))) _) ((gexp_no P Q G H G S hP hG hm) _) fun a w z F=>?_
 replace HM:=HM.on z
 clear z
 refine lx_value (v:=.tuple #[num 0,.int .i64 1]) F (wanted_none rfl _) rfl (by rfl) (o_move (F.ev rfl)) fun a F=>?_
 refine lx_value (v:=num 0) F (wanted_none rfl _) rfl (by rfl) (o_extract (F.ev rfl) rfl) fun a F=>?_
 refine lx_value (v:=.int .i64 1) F (wanted_none rfl _) rfl (by rfl) (o_extract (F.ev rfl) rfl) fun a F=>?_
 refine lx_new F HM (wanted_none rfl _) rfl (by rfl) (o_allocN) fun a w gk F HM=>?_
 refine lx_store F HM (wanted_none rfl _) rfl (k:=0) rfl (o_storeN (F.ev rfl) (F.ev rfl) (HM.get 0 rfl)) (M2:=[(gk,24,ncs 0),(gz,24,ncs 0),(go,30,sgc 0 0),(gd,24,ncs D),(gh,28,hcs h),(gs,24,ncs S),(gg,26,gcs P Q G H)]) (rfl) fun w HM=>?_
 refine lx_value (v:=.int .i64 1) F (wanted_none rfl _) rfl (by rfl) (o_assign (F.ev rfl)) fun a F=>?_
 refine lx_nil ?_
 repeat (first | refine ex_then ?_ | refine ex_block ?_ | refine wp_seq ?_ | refine wp_block ?_ | refine wp_skip ?_)
 refine wp_region_lit ?_
 refine lx_value (v:=.int .i64 1) F (wanted_none rfl _) rfl (by rfl) (o_move (F.ev rfl)) fun a F=>?_
 refine lx_value (v:=.bool true) F (wanted_none rfl _) rfl (by rfl) (o_bin (u:=.int .i64 1) (v:=.int .i64 0) (fun ρ hx hy=>by simp only [execOp,hx,hy];simp [go_sem]) (F.ev rfl) rfl) fun a F=>?_
 refine lx_nil ?_
 repeat (first | refine ex_then ?_ | refine ex_block ?_ | refine wp_seq ?_ | refine wp_block ?_ | refine wp_skip ?_)
 refine wp_cond_true (F.ev rfl) ?_
 repeat (first | refine ex_then ?_ | refine ex_block ?_ | refine wp_seq ?_ | refine wp_block ?_ | refine wp_skip ?_)
 refine wp_region_lit ?_
 refine lx_value (v:=sgv 0 0) F (wanted_none rfl _) rfl (by rfl) (o_buildS0) fun a F=>?_
 refine lx_value (v:=.int .i64 1) F (wanted_none rfl _) rfl (by rfl) (o_move (F.ev rfl)) fun a F=>?_
 refine lx_store F HM (wanted_none rfl _) rfl (k:=2) rfl (o_stS (F.ev rfl) (F.ev rfl) (HM.get 2 rfl)) (M2:=[(gk,24,ncs 0),(gz,24,ncs 0),(go,30,sgc 0 0),(gd,24,ncs D),(gh,28,hcs h),(gs,24,ncs S),(gg,26,gcs P Q G H)]) (by rw [sets_sg];rfl) fun w HM=>?_
 refine lx_value (v:=.int .i64 1) F (wanted_none rfl _) rfl (by rfl) (o_assign (F.ev rfl)) fun a F=>?_
 refine lx_nil ?_
 repeat (first | refine ex_then ?_ | refine ex_block ?_ | refine wp_seq ?_ | refine wp_block ?_ | refine wp_skip ?_)
 refine wp_ret ?_
 repeat (first | refine ex_thenR ?_ | refine ex_blockR ?_)
 exact sx_ret F HM (res_SE F (s:=8) (t:=9) rfl rfl rfl (HM.get 2 rfl))

set_option maxRecDepth 100000 in
set_option maxHeartbeats 800000 in
theorem sign_y (P Q G H S D:Nat) (h:Nat→Nat) (hP:P<2^256) (hQ:Q<2^256) (hG:G<2^256) (hS:S<2^256) (hD:D<2^256) (w0:World) (h0:decide (S=0)=false) (h1:decide (D=0)=false) (he:expB Q [S,D]=true) (hm:mayB P G=true) (hh:∀ i,h i<256) (T:By.Tabs w0) (K N c:Nat) (hK:G^S%P=K) (hN:G^D%P=N) (hc:chl Q K N h=c):Calls Tryd.prog 10 #[grp P Q G H,num S,hsv h,num D] w0 fun e w'=>e=.returned (.tuple #[sgv c ((D+S*c%Q)%Q),.int .i64 0])∧Below w0.heap.size w0 w':=by
 refine sx_enter (args:=[grp P Q G H,num S,hsv h,num D]) Tryd.func10 rfl Tryd.ntmps10 (by rfl) fun a F HM=>?_
 repeat (first | refine ex_then ?_ | refine ex_block ?_ | refine wp_seq ?_ | refine wp_block ?_ | refine wp_skip ?_)
 refine wp_region_lit ?_
 refine lx_new F HM (wanted_none rfl _) rfl (by rfl) (o_boxG (F.ev rfl)) fun a w gg F HM=>?_
 refine lx_new F HM (wanted_none rfl _) rfl (by rfl) (o_boxN (F.ev rfl)) fun a w gs F HM=>?_
 refine lx_new F HM (wanted_none rfl _) rfl (by rfl) (o_boxH (F.ev rfl)) fun a w gh F HM=>?_
 refine lx_new F HM (wanted_none rfl _) rfl (by rfl) (o_boxN (F.ev rfl)) fun a w gd F HM=>?_
 refine lx_new F HM (wanted_none rfl _) rfl (by rfl) (o_allocS) fun a w go F HM=>?_
 refine lx_value (v:=.int .i64 0) F (wanted_none rfl _) rfl (by rfl) (o_assign rfl) fun a F=>?_
 refine lx_nil ?_
 repeat (first | refine ex_then ?_ | refine ex_block ?_ | refine wp_seq ?_ | refine wp_block ?_ | refine wp_skip ?_)
 refine wp_region_lit ?_
 refine lx_value (v:=num 0) F (wanted_none rfl _) rfl (by rfl) (o_build0) fun a F=>?_
 refine lx_new F HM (wanted_none rfl _) rfl (by rfl) (o_allocN) fun a w gz F HM=>?_
 refine lx_store F HM (wanted_none rfl _) rfl (k:=0) rfl (o_storeN (F.ev rfl) (F.ev rfl) (HM.get 0 rfl)) (M2:=[(gz,24,ncs 0),(go,30,sgc 0 0),(gd,24,ncs D),(gh,28,hcs h),(gs,24,ncs S),(gg,26,gcs P Q G H)]) (rfl) fun w HM=>?_
 refine lx_nil ?_
 repeat (first | refine ex_then ?_ | refine ex_block ?_ | refine wp_seq ?_ | refine wp_block ?_ | refine wp_skip ?_)
 refine wp_region_lit ?_
 refine lx_value (v:=num S) F (wanted_none rfl _) rfl (by rfl) (o_loadN (F.ev rfl) (HM.get 4 rfl)) fun a F=>?_
 refine lx_value (v:=num 0) F (wanted_none rfl _) rfl (by rfl) (o_loadN (F.ev rfl) (HM.get 0 rfl)) fun a F=>?_
 refine lx_value (v:=.bool false) F (wanted_none rfl _) rfl (by rfl) (o_eqlN hS (by decide) h0 (F.ev rfl) (F.ev rfl)) fun a F=>?_
 refine lx_value (v:=.bool false) F (wanted_none rfl _) rfl (by rfl) (o_move (F.ev rfl)) fun a F=>?_
 refine lx_value (v:=num D) F (F.want (t:=24) (c:=false) rfl rfl rfl (by rfl) rfl) rfl (by rfl) (o_loadN (F.ev rfl) (HM.get 2 rfl)) fun a F=>?_
 refine lx_value (v:=num 0) F (F.want (t:=24) (c:=false) rfl rfl rfl (by rfl) rfl) rfl (by rfl) (o_loadN (F.ev rfl) (HM.get 0 rfl)) fun a F=>?_
 refine lx_value (v:=.bool false) F (F.want (t:=24) (c:=false) rfl rfl rfl (by rfl) rfl) rfl (by rfl) (o_eqlN hD (by decide) h1 (F.ev rfl) (F.ev rfl)) fun a F=>?_
 refine lx_value (v:=.bool false) F (wanted_none rfl _) rfl (by rfl) (o_pick (b:=false) (r:=.bool false) (F.ev rfl) rfl (F.ev rfl) rfl) fun a F=>?_
 refine lx_value (v:=.bool false) F (wanted_none rfl _) rfl (by rfl) (o_move (F.ev rfl)) fun a F=>?_
 refine lx_value (v:=grp P Q G H) F (F.want (t:=29) (c:=false) rfl rfl rfl (by rfl) rfl) rfl (by rfl) (o_loadG (F.ev rfl) (HM.get 5 rfl)) fun a F=>?_
 refine lx_value (v:=num S) F (F.want (t:=29) (c:=false) rfl rfl rfl (by rfl) rfl) rfl (by rfl) (o_loadN (F.ev rfl) (HM.get 4 rfl)) fun a F=>?_
 refine lx_value (v:=num D) F (F.want (t:=29) (c:=false) rfl rfl rfl (by rfl) rfl) rfl (by rfl) (o_loadN (F.ev rfl) (HM.get 2 rfl)) fun a F=>?_
 refine lx_rowM F HM (F.want (t:=29) (c:=false) rfl rfl rfl (by rfl) rfl) rfl (by rfl) (o_slice2 (F.ev rfl) (F.ev rfl)) fun a w gr F HM=>?_
 refine lx_call F (F.want (t:=29) (c:=false) rfl rfl rfl (by rfl) rfl) rfl (by rfl) (run_callF Tryd.func22 (by kernel_rfl) (by rfl) (.cons (F.ev rfl) (.cons (F.ev rfl) .nil)) _) (areS_is P Q G H 2 2 _ [S,D] _ he hQ (rn_2 (HM.get 0 rfl) hS hD)) fun a w z F=>?_
 replace HM:=HM.on z
 clear z
 refine lx_value (v:=.bool false) F (F.want (t:=29) (c:=false) rfl rfl rfl (by rfl) rfl) rfl (by rfl) (o_not (b:=true) (r:=false) (F.ev rfl) rfl) fun a F=>?_
 refine lx_value (v:=.bool false) F (wanted_none rfl _) rfl (by rfl) (o_pick (b:=false) (r:=.bool false) (F.ev rfl) rfl (F.ev rfl) rfl) fun a F=>?_
 refine lx_nil ?_
 repeat (first | refine ex_then ?_ | refine ex_block ?_ | refine wp_seq ?_ | refine wp_block ?_ | refine wp_skip ?_)
 refine wp_cond_false (F.ev rfl) ?_
 replace HM:=HM.erase 0 (M2:=[(gz,24,ncs 0),(go,30,sgc 0 0),(gd,24,ncs D),(gh,28,hcs h),(gs,24,ncs S),(gg,26,gcs P Q G H)]) rfl
 obtain ⟨⟨hq1,hSQ⟩,⟨_,hDQ⟩⟩:(1<Q∧S<Q)∧(1<Q∧D<Q):=⟨expB_all he S (by simp),expB_all he D (by simp)⟩
 have hcQ:c<Q:=by rw [← hc];exact chl_lt (by omega) _ _ _
 have ck:∀ w,Calls Tryd.prog 9 #[grp P Q G H,num G,num S] w fun e w'=>e=.returned (.tuple #[num K,.int .i64 0])∧Below w.heap.size w w':=fun w=>by rw [← hK];exact gexp_yes P Q G H G S hP hG hS hm w
 have cn:∀ w,Calls Tryd.prog 9 #[grp P Q G H,num G,num D] w fun e w'=>e=.returned (.tuple #[num N,.int .i64 0])∧Below w.heap.size w w':=fun w=>by rw [← hN];exact gexp_yes P Q G H G D hP hG hD hm w
 repeat (first | refine ex_then ?_ | refine ex_block ?_ | refine wp_seq ?_ | refine wp_block ?_ | refine wp_skip ?_)
 refine wp_region_lit ?_
 refine lx_value (v:=grp P Q G H) F (wanted_none rfl _) rfl (by rfl) (o_loadG (F.ev rfl) (HM.get 5 rfl)) fun a F=>?_
 refine lx_value (v:=.pointer (some ⟨gg,8,none⟩)) F (wanted_none rfl _) rfl (by rfl) (o_fieldG2 (F.ev rfl)) fun a F=>?_
 refine lx_value (v:=num G) F (wanted_none rfl _) rfl (by rfl) (o_loadG2 (F.ev rfl) (HM.get 5 rfl)) fun a F=>?_
 refine lx_value (v:=num S) F (wanted_none rfl _) rfl (by rfl) (o_loadN (F.ev rfl) (HM.get 4 rfl)) fun a F=>?_
 refine lx_call F (wanted_none rfl _) rfl (by rfl) (run_callF Tryd.func9 (by kernel_rfl) (by rfl) (.cons (F.ev rfl) (.cons (F.ev rfl) (.cons (F.ev rfl) .nil))) _) (ck _) fun a w z F=>?_
 replace HM:=HM.on z
 clear z
 refine lx_value (v:=.tuple #[num K,.int .i64 0]) F (wanted_none rfl _) rfl (by rfl) (o_move (F.ev rfl)) fun a F=>?_
 refine lx_value (v:=num K) F (wanted_none rfl _) rfl (by rfl) (o_extract (F.ev rfl) rfl) fun a F=>?_
 refine lx_value (v:=.int .i64 0) F (wanted_none rfl _) rfl (by rfl) (o_extract (F.ev rfl) rfl) fun a F=>?_
 refine lx_new F HM (wanted_none rfl _) rfl (by rfl) (o_allocN) fun a w gk F HM=>?_
 refine lx_store F HM (wanted_none rfl _) rfl (k:=0) rfl (o_storeN (F.ev rfl) (F.ev rfl) (HM.get 0 rfl)) (M2:=[(gk,24,ncs K),(gz,24,ncs 0),(go,30,sgc 0 0),(gd,24,ncs D),(gh,28,hcs h),(gs,24,ncs S),(gg,26,gcs P Q G H)]) (rfl) fun w HM=>?_
 refine lx_value (v:=.int .i64 0) F (wanted_none rfl _) rfl (by rfl) (o_assign (F.ev rfl)) fun a F=>?_
 refine lx_nil ?_
 repeat (first | refine ex_then ?_ | refine ex_block ?_ | refine wp_seq ?_ | refine wp_block ?_ | refine wp_skip ?_)
 refine wp_region_lit ?_
 refine lx_value (v:=.int .i64 0) F (wanted_none rfl _) rfl (by rfl) (o_move (F.ev rfl)) fun a F=>?_
 refine lx_value (v:=.bool false) F (wanted_none rfl _) rfl (by rfl) (o_bin (u:=.int .i64 0) (v:=.int .i64 0) (fun ρ hx hy=>by simp only [execOp,hx,hy];simp [go_sem]) (F.ev rfl) rfl) fun a F=>?_
 refine lx_nil ?_
 repeat (first | refine ex_then ?_ | refine ex_block ?_ | refine wp_seq ?_ | refine wp_block ?_ | refine wp_skip ?_)
 refine wp_cond_false (F.ev rfl) ?_
 repeat (first | refine ex_then ?_ | refine ex_block ?_ | refine wp_seq ?_ | refine wp_block ?_ | refine wp_skip ?_)
 refine wp_region_lit ?_
 refine lx_value (v:=grp P Q G H) F (wanted_none rfl _) rfl (by rfl) (o_loadG (F.ev rfl) (HM.get 6 rfl)) fun a F=>?_
 refine lx_value (v:=.pointer (some ⟨gg,8,none⟩)) F (wanted_none rfl _) rfl (by rfl) (o_fieldG2 (F.ev rfl)) fun a F=>?_
 refine lx_value (v:=num G) F (wanted_none rfl _) rfl (by rfl) (o_loadG2 (F.ev rfl) (HM.get 6 rfl)) fun a F=>?_
 refine lx_value (v:=num D) F (wanted_none rfl _) rfl (by rfl) (o_loadN (F.ev rfl) (HM.get 3 rfl)) fun a F=>?_
 refine lx_call F (wanted_none rfl _) rfl (by rfl) (run_callF Tryd.func9 (by kernel_rfl) (by rfl) (.cons (F.ev rfl) (.cons (F.ev rfl) (.cons (F.ev rfl) .nil))) _) (cn _) fun a w z F=>?_
 replace HM:=HM.on z
 clear z
 refine lx_value (v:=.tuple #[num N,.int .i64 0]) F (wanted_none rfl _) rfl (by rfl) (o_move (F.ev rfl)) fun a F=>?_
 refine lx_value (v:=num N) F (wanted_none rfl _) rfl (by rfl) (o_extract (F.ev rfl) rfl) fun a F=>?_
 refine lx_value (v:=.int .i64 0) F (wanted_none rfl _) rfl (by rfl) (o_extract (F.ev rfl) rfl) fun a F=>?_
 refine lx_new F HM (wanted_none rfl _) rfl (by rfl) (o_allocN) fun a w gn F HM=>?_
 refine lx_store F HM (wanted_none rfl _) rfl (k:=0) rfl (o_storeN (F.ev rfl) (F.ev rfl) (HM.get 0 rfl)) (M2:=[(gn,24,ncs N),(gk,24,ncs K),(gz,24,ncs 0),(go,30,sgc 0 0),(gd,24,ncs D),(gh,28,hcs h),(gs,24,ncs S),(gg,26,gcs P Q G H)]) (rfl) fun w HM=>?_
 refine lx_value (v:=.int .i64 0) F (wanted_none rfl _) rfl (by rfl) (o_assign (F.ev rfl)) fun a F=>?_
 refine lx_nil ?_
 repeat (first | refine ex_then ?_ | refine ex_block ?_ | refine wp_seq ?_ | refine wp_block ?_ | refine wp_skip ?_)
 refine sx_enterR (S:=fun w'=>Mem _ _ w' [(gn,24,ncs N),(gk,24,ncs K),(gz,24,ncs 0),(go,30,sgc 0 0),(gd,24,ncs D),(gh,28,hcs h),(gs,24,ncs S),(gg,26,gcs P Q G H)]) HM (fun _ h=>h) (by kernel_rfl) fun w HM HBW=>?_
 clear HBW
 try simp only [List.append_eq,List.cons_append,List.nil_append]
 refine sx_batch [⟨0,58,[],.val (grp P Q G H),true⟩,
   ⟨1,59,[0],.val (num K),true⟩,
   ⟨2,60,[1],.val (hsv h),true⟩,
   ⟨4,62,[2],.val (num N),true⟩,
   ⟨6,15,[],.cell 24 (ncs 0),false⟩,
   ⟨3,61,[0,1,2,3],.clo (fun g=>cloV g) (CloQ P Q G H K h) (⟨cloI,fun _ _ _ h hb=>h.on hb⟩),false⟩,
   ⟨5,63,[3,5],.val (num c),false⟩] 1 _ F HM (fun _ h=>h.subl (by first | exact List.Sublist.refl _ | (repeat (first | exact List.Sublist.refl _ | refine List.Sublist.cons_cons _ ?_ | refine List.Sublist.cons _ ?_)))) (by kernel_rfl) (by rfl) ?_ ?_ ?_ ?_ ?_ ?_ ?_
 ·kernel_rfl
 ·exact of_decide_eq_true (by kernel_rfl)
 ·(repeat refine all_cons ⟨_,by rfl,by rfl⟩ ?_);exact all_nil
 ·kernel_rfl
 ·(repeat (refine all_cons ?_ ?_;rotate_left));exact all_nil
  ·exact coreS _ _ _ _ _ _ _ (by rfl) (by rfl) (wants_none) (fun ρ w kn hs=>o_loadG (kn _ _ (F.old (by rfl) rfl)) (hs.get 7 rfl))
  ·exact coreS _ _ _ _ _ _ _ (by rfl) (by rfl) (wants_none) (fun ρ w kn hs=>o_loadN (kn _ _ (F.old (by rfl) rfl)) (hs.get 1 rfl))
  ·exact coreS _ _ _ _ _ _ _ (by rfl) (by rfl) (wants_none) (fun ρ w kn hs=>o_ldH (kn _ _ (F.old (by rfl) rfl)) (hs.get 5 rfl))
  ·exact coreS _ _ _ _ _ _ _ (by rfl) (by rfl) (wants_none) (fun ρ w kn hs=>o_loadN (kn _ _ (F.old (by rfl) rfl)) (hs.get 0 rfl))
  ·exact core_pureAs _ (by rfl)
  ·exact core_pureAs _ (by rfl)
  ·exact core_pureAs _ (by rfl)
 ·(repeat (refine all_cons ?_ ?_;rotate_left));exact all_nil
  ·exact sA
  ·exact sA
  ·exact sA
  ·exact sA
  ·exact fun _=>core_new _ _ _ _ _ _ _ _ (by rfl) (by rfl) (Nat.le_refl _) (fun ρ w=>o_allocN)
  ·intro _
   refine core_callE _ [.tmp 58,.tmp 59,.tmp 60] (.func 23) _ _ _ _ _ (by rfl) (wants_none) (by rfl) (fun vs w hl hb hp=>?_)
   exact ⟨_,_,run_callF Tryd.func23 (by kernel_rfl) (by rfl) (.cons ((kc 0 58) vs w hl hp) (.cons ((kc 1 59) vs w hl hp) (.cons ((kc 2 60) vs w hl hp) .nil))) _,(chs_is P Q G H K h w).mono fun e w' ⟨g,he,hb,hq⟩=>⟨_,he,hb,g,rfl,hq⟩⟩
  ·intro _
   refine core_callE _ [.tmp 62] (.tmp 61) _ _ _ _ _ (by rfl) (wants_none) (by rfl) (fun vs w hl hb hp=>?_)
   obtain ⟨gc,ec,qc⟩:=clo_of hl hp 5 61 _ (fun g=>cloV g) (CloQ P Q G H K h) (⟨cloI,fun _ _ _ h hb=>h.on hb⟩) (of_decide_eq_true (by rfl)) (by rfl) (by rfl) (by rfl)
   exact ⟨_,_,run_callVA Tryd.func38 (by kernel_rfl) (by rfl) ec (.cons ((kc 3 62) vs w hl hp) .nil) _,(chal_is P Q G H K N gc (gc+1) (gc+2) h hQ hh w ((T.on HM.bel).on hb) qc.1 qc.2.1 qc.2.2).mono fun e w' h=>⟨_,h.1.trans (by rw [hc]),h.2,rfl⟩⟩
 intro gs rs a w hgs hrs F HM HBW HR HO HT
 obtain ⟨gC,rfl⟩:=nl1 rs hrs
 obtain ⟨gc,rfl⟩:=nl1 gs hgs
 clear hrs hgs HR HBW HO
 obtain ⟨rC,-⟩:=HT
 refine sx_store (i:=7) HM (by kernel_rfl) (by rfl) rfl rfl (k:=0) rfl (o_storeN (F.ev rfl) (F.ev rfl) (HM.get 0 rfl)) (M2:=[(gc,24,ncs c),(gn,24,ncs N),(gk,24,ncs K),(gz,24,ncs 0),(go,30,sgc 0 0),(gd,24,ncs D),(gh,28,hcs h),(gs,24,ncs S),(gg,26,gcs P Q G H)]) (rfl) (fun _ h=>h.subl (by first | exact List.Sublist.refl _ | (repeat (first | exact List.Sublist.refl _ | refine List.Sublist.cons_cons _ ?_ | refine List.Sublist.cons _ ?_)))) fun w HM=>?_
 refine sx_done (by kernel_rfl) ?_ _
 repeat (first | refine ex_then ?_ | refine ex_block ?_ | refine wp_seq ?_ | refine wp_block ?_ | refine wp_skip ?_)
 refine wp_region_lit ?_
 refine lx_value (v:=grp P Q G H) F (wanted_none rfl _) rfl (by rfl) (o_loadG (F.ev rfl) (HM.get 8 rfl)) fun a F=>?_
 refine lx_value (v:=num S) F (wanted_none rfl _) rfl (by rfl) (o_loadN (F.ev rfl) (HM.get 7 rfl)) fun a F=>?_
 refine lx_value (v:=num c) F (wanted_none rfl _) rfl (by rfl) (o_loadN (F.ev rfl) (HM.get 0 rfl)) fun a F=>?_
 refine lx_call F (wanted_none rfl _) rfl (by rfl) (run_callF Tryd.func15 (by kernel_rfl) (by rfl) (.cons (F.ev rfl) (.cons (F.ev rfl) (.cons (F.ev rfl) .nil))) _) ((smul_yes P Q G H S c hQ hq1 hSQ hcQ) _) fun a w z F=>?_
 replace HM:=HM.on z
 clear z
 refine lx_value (v:=.tuple #[num ((S*c%Q)),.int .i64 0]) F (wanted_none rfl _) rfl (by rfl) (o_move (F.ev rfl)) fun a F=>?_
 refine lx_value (v:=num ((S*c%Q))) F (wanted_none rfl _) rfl (by rfl) (o_extract (F.ev rfl) rfl) fun a F=>?_
 refine lx_value (v:=.int .i64 0) F (wanted_none rfl _) rfl (by rfl) (o_extract (F.ev rfl) rfl) fun a F=>?_
 refine lx_new F HM (wanted_none rfl _) rfl (by rfl) (o_allocN) fun a w gp F HM=>?_
 refine lx_store F HM (wanted_none rfl _) rfl (k:=0) rfl (o_storeN (F.ev rfl) (F.ev rfl) (HM.get 0 rfl)) (M2:=[(gp,24,ncs ((S*c%Q))),(gc,24,ncs c),(gn,24,ncs N),(gk,24,ncs K),(gz,24,ncs 0),(go,30,sgc 0 0),(gd,24,ncs D),(gh,28,hcs h),(gs,24,ncs S),(gg,26,gcs P Q G H)]) (rfl) fun w HM=>?_
 refine lx_value (v:=.int .i64 0) F (wanted_none rfl _) rfl (by rfl) (o_assign (F.ev rfl)) fun a F=>?_
 refine lx_nil ?_
 repeat (first | refine ex_then ?_ | refine ex_block ?_ | refine wp_seq ?_ | refine wp_block ?_ | refine wp_skip ?_)
 refine wp_region_lit ?_
 refine lx_value (v:=grp P Q G H) F (wanted_none rfl _) rfl (by rfl) (o_loadG (F.ev rfl) (HM.get 9 rfl)) fun a F=>?_
 refine lx_value (v:=num D) F (wanted_none rfl _) rfl (by rfl) (o_loadN (F.ev rfl) (HM.get 6 rfl)) fun a F=>?_
 refine lx_value (v:=num ((S*c%Q))) F (wanted_none rfl _) rfl (by rfl) (o_loadN (F.ev rfl) (HM.get 0 rfl)) fun a F=>?_
 refine lx_call F (wanted_none rfl _) rfl (by rfl) (run_callF Tryd.func17 (by kernel_rfl) (by rfl) (.cons (F.ev rfl) (.cons (F.ev rfl) (.cons (F.ev rfl) .nil))) _) ((sadd_yes P Q G H D (S*c%Q) hQ hq1 hDQ (Nat.mod_lt _ (by omega))) _) fun a w z F=>?_
 replace HM:=HM.on z
 clear z
 refine lx_value (v:=.tuple #[num (((D+S*c%Q)%Q)),.int .i64 0]) F (wanted_none rfl _) rfl (by rfl) (o_move (F.ev rfl)) fun a F=>?_
 refine lx_value (v:=num (((D+S*c%Q)%Q))) F (wanted_none rfl _) rfl (by rfl) (o_extract (F.ev rfl) rfl) fun a F=>?_
 refine lx_value (v:=.int .i64 0) F (wanted_none rfl _) rfl (by rfl) (o_extract (F.ev rfl) rfl) fun a F=>?_
 refine lx_new F HM (wanted_none rfl _) rfl (by rfl) (o_allocN) fun a w gx F HM=>?_
 refine lx_store F HM (wanted_none rfl _) rfl (k:=0) rfl (o_storeN (F.ev rfl) (F.ev rfl) (HM.get 0 rfl)) (M2:=[(gx,24,ncs (((D+S*c%Q)%Q))),(gp,24,ncs ((S*c%Q))),(gc,24,ncs c),(gn,24,ncs N),(gk,24,ncs K),(gz,24,ncs 0),(go,30,sgc 0 0),(gd,24,ncs D),(gh,28,hcs h),(gs,24,ncs S),(gg,26,gcs P Q G H)]) (rfl) fun w HM=>?_
 refine lx_value (v:=.int .i64 0) F (wanted_none rfl _) rfl (by rfl) (o_assign (F.ev rfl)) fun a F=>?_
 refine lx_nil ?_
 repeat (first | refine ex_then ?_ | refine ex_block ?_ | refine wp_seq ?_ | refine wp_block ?_ | refine wp_skip ?_)
 refine wp_region_lit ?_
 refine lx_value (v:=num c) F (wanted_none rfl _) rfl (by rfl) (o_loadN (F.ev rfl) (HM.get 2 rfl)) fun a F=>?_
 refine lx_value (v:=num (((D+S*c%Q)%Q))) F (wanted_none rfl _) rfl (by rfl) (o_loadN (F.ev rfl) (HM.get 0 rfl)) fun a F=>?_
 refine lx_value (v:=sgv c (((D+S*c%Q)%Q))) F (wanted_none rfl _) rfl (by rfl) (o_buildS (F.ev rfl) (F.ev rfl)) fun a F=>?_
 refine lx_store F HM (wanted_none rfl _) rfl (k:=6) rfl (o_stS (F.ev rfl) (F.ev rfl) (HM.get 6 rfl)) (M2:=[(gx,24,ncs (((D+S*c%Q)%Q))),(gp,24,ncs ((S*c%Q))),(gc,24,ncs c),(gn,24,ncs N),(gk,24,ncs K),(gz,24,ncs 0),(go,30,sgc c (((D+S*c%Q)%Q))),(gd,24,ncs D),(gh,28,hcs h),(gs,24,ncs S),(gg,26,gcs P Q G H)]) (by rw [sets_sg];rfl) fun w HM=>?_
 refine lx_value (v:=.int .i64 0) F (wanted_none rfl _) rfl (by rfl) (o_assign rfl) fun a F=>?_
 refine lx_nil ?_
 repeat (first | refine ex_then ?_ | refine ex_block ?_ | refine wp_seq ?_ | refine wp_block ?_ | refine wp_skip ?_)
 refine wp_ret ?_
 repeat (first | refine ex_thenR ?_ | refine ex_blockR ?_)
 exact sx_ret F HM (res_SE F (s:=8) (t:=9) rfl rfl rfl (HM.get 6 rfl))

/-- what is signed,if anything is -/
noncomputable def signB (P Q G S D:Nat):Bool:=!decide (S=0) && (!decide (D=0) && (expB Q [S,D] && mayB P G))
noncomputable def sgC (P Q G:Nat) (h:Nat→Nat) (S D:Nat):Nat:=chl Q (G^S%P) (G^D%P) h
noncomputable def sgS (P Q G:Nat) (h:Nat→Nat) (S D:Nat):Nat:=(D+S*sgC P Q G h S D%Q)%Q
theorem sign_yes (P Q G H S D:Nat) (h:Nat→Nat) (hP:P<2^256) (hQ:Q<2^256) (hG:G<2^256) (hS:S<2^256) (hD:D<2^256) (w0:World) (hb:signB P Q G S D=true) (hh:∀ i,h i<256) (T:By.Tabs w0):Calls Tryd.prog 10 #[grp P Q G H,num S,hsv h,num D] w0 fun e w'=>e=.returned (.tuple #[sgv (sgC P Q G h S D) (sgS P Q G h S D),.int .i64 0])∧Below w0.heap.size w0 w':=by
 unfold signB at hb
 simp only [Bool.and_eq_true,Bool.not_eq_true'] at hb
 exact sign_y P Q G H S D h hP hQ hG hS hD w0 hb.1 hb.2.1 hb.2.2.1 hb.2.2.2 hh T _ _ _ rfl rfl rfl
theorem sign_no (P Q G H S D:Nat) (h:Nat→Nat) (hP:P<2^256) (hQ:Q<2^256) (hG:G<2^256) (hS:S<2^256) (hD:D<2^256) (w0:World) (hb:signB P Q G S D=false):Calls Tryd.prog 10 #[grp P Q G H,num S,hsv h,num D] w0 fun e w'=>e=.returned (.tuple #[sgv 0 0,.int .i64 1])∧Below w0.heap.size w0 w':=by
 unfold signB at hb
 rcases h0:decide (S=0) with _ | _
 ·rcases h1:decide (D=0) with _ | _
  ·rcases he:expB Q [S,D] with _ | _
   ·exact sign_n2 P Q G H S D h hP hQ hG hS hD w0 h0 h1 he
   ·rw [h0,h1,he] at hb
    exact sign_n3 P Q G H S D h hP hQ hG hS hD w0 h0 h1 he (by simpa using hb)
  ·exact sign_n1 P Q G H S D h hP hQ hG hS hD w0 h0 h1
 ·exact sign_n0 P Q G H S D h hP hQ hG hS hD w0 h0
end Go.Proofs.YtlphnfajhpkleaaDoor
