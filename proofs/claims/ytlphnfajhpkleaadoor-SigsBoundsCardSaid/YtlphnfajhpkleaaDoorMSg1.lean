/-
 a group of small primes,keys,exponents.
-/
import Derived.Deep.Cut
import Derived.Test.YtlphnfajhpkleaaDoorMOpenV
import Derived.Test.YtlphnfajhpkleaaDoorMSmall
namespace Go.Proofs.YtlphnfajhpkleaaDoor
set_option maxRecDepth 100000
open Go.RowKit
set_option linter.unusedSimpArgs false
set_option linter.unusedVariables false
attribute [local go_sem ↓] Go.wp_at_zero Go.wp_at_succ

section
variable {x y:Operand} {dst:Option Tmp} {ty:TypeId} {pos:String} {after:Array Edge} {guard:Option (Nat × Bool)} {ρ:Operand→Value} {w:World} {g o:Nat}
theorem o_idxW0 (hx:ρ x=.pointer (some ⟨g,o,none⟩)) (hy:ρ y=.int .i64 0):(execOp ρ ⟨dst,.indexAddr 24 x y,ty,pos,after,guard⟩).run Tryd.prog w=.ok (.value (.pointer (some ⟨g,o,none⟩))) w:=by simp [execOp,hx,hy,go_sem]
theorem o_loadW {t:TypeId} {cs:Array Value} {n:Nat} (hx:ρ x=.pointer (some ⟨g,o,none⟩)) (h:At w g t cs) (hu:cs[o]? = some (.int .u64 (n:Nat))):(execOp ρ ⟨dst,.load 22 x,ty,pos,after,guard⟩).run Tryd.prog w=.ok (.value (.int .u64 (n:Nat))) w:=by
 have c0:w.cell? ⟨g,o,none⟩=some (.int .u64 (n:Nat)):=by rw [h.cell o,hu]
 simp [execOp,hx,go_sem,c0]
theorem o_twice1 {m n:Nat} (hm:m<18446744073709551616) (hn:n=(2*m)%18446744073709551616) (hx:ρ (.const (.int .u64 2))=.int .u64 2) (hy:ρ y=.int .u64 (m:Nat)):(execOp ρ ⟨dst,.binOp .mul 22 (.const (.int .u64 2)) y 22,ty,pos,after,guard⟩).run Tryd.prog w=.ok (.value (.int .u64 (n:Nat))) w:=by
 have h:IntKind.u64.wrap (2*(m:Int))=(n:Int):=by rw [IntKind.wrap_u64,hn];omega
 simp only [execOp,hx,hy];simp [go_sem,h]
theorem o_next1 {m n:Nat} (hm:m<18446744073709551616) (hn:n=(m+1)%18446744073709551616) (hx:ρ x=.int .u64 (m:Nat)) (hy:ρ (.const (.int .u64 1))=.int .u64 1):(execOp ρ ⟨dst,.binOp .add 22 x (.const (.int .u64 1)) 22,ty,pos,after,guard⟩).run Tryd.prog w=.ok (.value (.int .u64 (n:Nat))) w:=by
 have h:IntKind.u64.wrap ((m:Int)+1)=(n:Int):=by rw [IntKind.wrap_u64,hn];omega
 simp only [execOp,hx,hy];simp [go_sem,h]
theorem o_neqW {m n:Nat} {b:Bool} (hb:decide (m≠n)=b) (hx:ρ x=.int .u64 (m:Nat)) (hy:ρ y=.int .u64 (n:Nat)):(execOp ρ ⟨dst,.binOp .neq 22 x y 22,ty,pos,after,guard⟩).run Tryd.prog w=.ok (.value (.bool b)) w:=by
 subst hb;simp only [execOp,hx,hy]
 by_cases h:m=n
 ·subst h;simp [go_sem]
 ·have h2:¬ (m:Int)=(n:Int):=by omega
  simp [go_sem,h,h2]
end
theorem res_G {fn:Func} {a:Act} {N:Nat} {L:List (Nat × Value)} {df:List Deferred} {w:World} (F:Fr a N L df) {s gs P Q G H:Nat} (hf:fn.results=#[.cell s 26]) (h1:lk L s=some (.pointer (some ⟨gs,0,none⟩)))
  (A1:At w gs 26 (gcs P Q G H)):(results fn a.tmps).run Tryd.prog w=.ok (grp P Q G H) w:=by
 have e1:=F.get s _ h1
 rw [Array.getD_eq_getD_getElem?] at e1
 have c0:w.cell? ⟨gs,0,none⟩=some (.int .u64 (wd P 0:Nat)):=A1.cell 0
 have c1:w.cell? ⟨gs,1,none⟩=some (.int .u64 (wd P 1:Nat)):=A1.cell 1
 have c2:w.cell? ⟨gs,2,none⟩=some (.int .u64 (wd P 2:Nat)):=A1.cell 2
 have c3:w.cell? ⟨gs,3,none⟩=some (.int .u64 (wd P 3:Nat)):=A1.cell 3
 have c4:w.cell? ⟨gs,4,none⟩=some (.int .u64 (wd Q 0:Nat)):=A1.cell 4
 have c5:w.cell? ⟨gs,5,none⟩=some (.int .u64 (wd Q 1:Nat)):=A1.cell 5
 have c6:w.cell? ⟨gs,6,none⟩=some (.int .u64 (wd Q 2:Nat)):=A1.cell 6
 have c7:w.cell? ⟨gs,7,none⟩=some (.int .u64 (wd Q 3:Nat)):=A1.cell 7
 have c8:w.cell? ⟨gs,8,none⟩=some (.int .u64 (wd G 0:Nat)):=A1.cell 8
 have c9:w.cell? ⟨gs,9,none⟩=some (.int .u64 (wd G 1:Nat)):=A1.cell 9
 have c10:w.cell? ⟨gs,10,none⟩=some (.int .u64 (wd G 2:Nat)):=A1.cell 10
 have c11:w.cell? ⟨gs,11,none⟩=some (.int .u64 (wd G 3:Nat)):=A1.cell 11
 have c12:w.cell? ⟨gs,12,none⟩=some (.int .u64 (wd H 0:Nat)):=A1.cell 12
 have c13:w.cell? ⟨gs,13,none⟩=some (.int .u64 (wd H 1:Nat)):=A1.cell 13
 have c14:w.cell? ⟨gs,14,none⟩=some (.int .u64 (wd H 2:Nat)):=A1.cell 14
 have c15:w.cell? ⟨gs,15,none⟩=some (.int .u64 (wd H 3:Nat)):=A1.cell 15
 simp [results,hf,go_sem,e1,c0,c1,c2,c3,c4,c5,c6,c7,c8,c9,c10,c11,c12,c13,c14,c15]
theorem of8_any (x:Nat) (hx:x<18446744073709551616) (w:World):Calls Tryd.prog 34 #[.int .u64 (x:Nat)] w fun e w'=>e=.returned (num x)∧Below w.heap.size w w':=by
 refine sx_enter (args:=[.int .u64 (x:Nat)]) Tryd.func34 rfl Tryd.ntmps34 (by rfl) fun a F HM=>?_
 repeat (first | refine ex_then ?_ | refine ex_block ?_ | refine wp_seq ?_ | refine wp_block ?_ | refine wp_skip ?_)
 refine wp_region_lit ?_
 refine lx_new F HM (wanted_none rfl _) rfl (by rfl) (o_allocN) fun a w go F HM=>?_
 refine lx_nil ?_
 repeat (first | refine ex_then ?_ | refine ex_block ?_ | refine wp_seq ?_ | refine wp_block ?_ | refine wp_skip ?_)
 refine wp_region_lit ?_
 refine lx_value (v:=.int .u64 (x:Nat)) F (wanted_none rfl _) rfl (by rfl) (o_move (F.ev rfl)) fun a F=>?_
 refine lx_call F (wanted_none rfl _) rfl (by rfl) (run_callF Tryd.func30 (by kernel_rfl) (by rfl) (.cons (F.ev rfl) .nil) _) ((fun w=>of_any x hx w) _) fun a w z F=>?_
 replace HM:=HM.on z
 clear z
 refine lx_store F HM (wanted_none rfl _) rfl (k:=0) rfl (o_storeN (F.ev rfl) (F.ev rfl) (HM.get 0 rfl)) (M2:=[(go,24,ncs x)]) rfl fun w HM=>?_
 refine lx_nil ?_
 repeat (first | refine ex_then ?_ | refine ex_block ?_ | refine wp_seq ?_ | refine wp_block ?_ | refine wp_skip ?_)
 refine wp_ret ?_
 repeat (first | refine ex_thenR ?_ | refine ex_blockR ?_)
 exact sx_ret F HM (res_N F (s:=2) rfl rfl (HM.get 0 rfl))
theorem known8_any (w:World):Calls Tryd.prog 19 #[] w fun e w'=>e=.returned (grp 23 11 4 9)∧Below w.heap.size w w':=by
 refine sx_enter (args:=[]) Tryd.func19 rfl Tryd.ntmps19 (by rfl) fun a F HM=>?_
 repeat (first | refine ex_then ?_ | refine ex_block ?_ | refine wp_seq ?_ | refine wp_block ?_ | refine wp_skip ?_)
 refine wp_region_lit ?_
 refine lx_new F HM (wanted_none rfl _) rfl (by rfl) (o_allocG) fun a w go F HM=>?_
 refine lx_nil ?_
 repeat (first | refine ex_then ?_ | refine ex_block ?_ | refine wp_seq ?_ | refine wp_block ?_ | refine wp_skip ?_)
 refine wp_region_lit ?_
 refine lx_call F (wanted_none rfl _) rfl (by rfl) (run_callF Tryd.func34 (by kernel_rfl) (by rfl) (.cons rfl .nil) _) ((fun w=>of8_any 23 (by decide) w) _) fun a w z F=>?_
 replace HM:=HM.on z
 clear z
 refine lx_call F (wanted_none rfl _) rfl (by rfl) (run_callF Tryd.func34 (by kernel_rfl) (by rfl) (.cons rfl .nil) _) ((fun w=>of8_any 11 (by decide) w) _) fun a w z F=>?_
 replace HM:=HM.on z
 clear z
 refine lx_call F (wanted_none rfl _) rfl (by rfl) (run_callF Tryd.func34 (by kernel_rfl) (by rfl) (.cons rfl .nil) _) ((fun w=>of8_any 4 (by decide) w) _) fun a w z F=>?_
 replace HM:=HM.on z
 clear z
 refine lx_call F (wanted_none rfl _) rfl (by rfl) (run_callF Tryd.func34 (by kernel_rfl) (by rfl) (.cons rfl .nil) _) ((fun w=>of8_any 9 (by decide) w) _) fun a w z F=>?_
 replace HM:=HM.on z
 clear z
 refine lx_value (v:=grp 23 11 4 9) F (wanted_none rfl _) rfl (by rfl) (o_buildG (F.ev rfl) (F.ev rfl) (F.ev rfl) (F.ev rfl)) fun a F=>?_
 refine lx_store F HM (wanted_none rfl _) rfl (k:=0) rfl (o_storeG (F.ev rfl) (F.ev rfl) (HM.get 0 rfl)) (M2:=[(go,26,gcs 23 11 4 9)]) rfl fun w HM=>?_
 refine lx_nil ?_
 repeat (first | refine ex_then ?_ | refine ex_block ?_ | refine wp_seq ?_ | refine wp_block ?_ | refine wp_skip ?_)
 refine wp_ret ?_
 repeat (first | refine ex_thenR ?_ | refine ex_blockR ?_)
 exact sx_ret F HM (res_G F (s:=0) rfl rfl (HM.get 0 rfl))
theorem small_is {b:Bool} {n:Nat} (h:smallB n=b) (hn:n<18446744073709551616) (w:World):Calls Tryd.prog 33 #[.int .u64 (n:Nat)] w fun e w'=>e=.returned (.bool b)∧Below w.heap.size w w':=by
 subst h;exact small_any n hn w
theorem gin_is {b:Bool} (P Q G H A:Nat) (h:inB P Q A=b) (hP:P<2^256) (hQ:Q<2^256) (hA:A<2^256) (w:World):Calls Tryd.prog 16 #[grp P Q G H,num A] w fun e w'=>e=.returned (.bool b)∧Below w.heap.size w w':=by
 subst h;exact gin_any P Q G H A hP hQ hA w
theorem wd_64 (X k:Nat):wd X k<18446744073709551616:=Nat.mod_lt _ (by decide)
set_option maxHeartbeats 800000 in
section
variable {x y:Operand} {dst:Option Tmp} {ty:TypeId} {pos:String} {after:Array Edge} {guard:Option (Nat × Bool)} {ρ:Operand→Value} {w:World}
theorem o_neqN' {X Y:Nat} {b:Bool} (hX:X<2^256) (hY:Y<2^256) (hb:(!decide (X=Y))=b) (hx:ρ x=num X) (hy:ρ y=num Y):(execOp ρ ⟨dst,.binOp .neq 24 x y 24,ty,pos,after,guard⟩).run Tryd.prog w=.ok (.value (.bool b)) w:=by
 subst hb;exact o_neqN hX hY rfl hx hy
end
set_option maxRecDepth 100000 in
set_option maxHeartbeats 800000 in
theorem good_w (P Q G H:Nat) (hP:P<2^256) (hQ:Q<2^256) (hG:G<2^256) (hH:H<2^256) (w0:World) (b0 b1 b2 c0 c1 c2 c3 c4 c5:Bool) (hb0:decide ((32:Int)<(Go.bitLen P:Nat))=b0) (hb1:decide ((31:Int)<(Go.bitLen Q:Nat))=b1) (hb2:decide (wd P 0≠(2*wd Q 0%18446744073709551616+1)%18446744073709551616)=b2) (hc0:smallB (wd P 0)=c0) (hc1:smallB (wd Q 0)=c1) (hc2:inB P Q G=c2) (hc3:inB P Q H=c3) (hc4:(!decide (G=1))=c4) (hc5:(!decide (H=1))=c5):Calls Tryd.prog 18 #[grp P Q G H] w0 fun e w'=>e=.returned (.bool (!((b0 || b1) || b2) && (((((c0 && c1) && c2) && c3) && c4) && c5)))∧Below w0.heap.size w0 w':=by
 refine sx_enter (args:=[grp P Q G H]) Tryd.func18 rfl Tryd.ntmps18 (by rfl) fun a F HM=>?_
 repeat (first | refine ex_then ?_ | refine ex_block ?_ | refine wp_seq ?_ | refine wp_block ?_ | refine wp_skip ?_)
 refine wp_region_lit ?_
 refine lx_new F HM (wanted_none rfl _) rfl (by rfl) (o_boxG (F.ev rfl)) fun a w gg F HM=>?_
 refine lx_value (v:=.bool false) F (wanted_none rfl _) rfl (by rfl) (o_assign rfl) fun a F=>?_
 refine lx_nil ?_
 repeat (first | refine ex_then ?_ | refine ex_block ?_ | refine wp_seq ?_ | refine wp_block ?_ | refine wp_skip ?_)
 refine wp_region_lit ?_
 refine lx_value (v:=.pointer (some ⟨gg,0,none⟩)) F (wanted_none rfl _) rfl (by rfl) (o_fieldG0 (F.ev rfl)) fun a F=>?_
 refine lx_value (v:=num P) F (wanted_none rfl _) rfl (by rfl) (o_loadG0 (F.ev rfl) (HM.get 0 rfl)) fun a F=>?_
 refine lx_call F (wanted_none rfl _) rfl (by rfl) (run_callF Tryd.func32 (by kernel_rfl) (by rfl) (.cons (F.ev rfl) .nil) _) ((fun w=>bits_any P hP w) _) fun a w z F=>?_
 replace HM:=HM.on z
 clear z
 refine lx_value (v:=.bool b0) F (wanted_none rfl _) rfl (by rfl) (o_gtrI (m:=(Go.bitLen P:Nat)) hb0 (F.ev rfl) rfl) fun a F=>?_
 refine lx_value (v:=.bool b0) F (wanted_none rfl _) rfl (by rfl) (o_move (F.ev rfl)) fun a F=>?_
 refine lx_valG (v:=.pointer (some ⟨gg,4,none⟩)) F rfl rfl (t:=7) (c:=b0) (e:=(!b0)) rfl rfl (by simp) rfl (by rfl) (fun he=>o_fieldG1 (F.ev rfl)) fun a F=>?_
 refine lx_valG (v:=num Q) F rfl rfl (t:=7) (c:=b0) (e:=(!b0)) rfl rfl (by simp) rfl (by rfl) (fun he=>o_loadG1 (F.evg rfl he) (HM.get 0 rfl)) fun a F=>?_
 refine lx_callG (v:=.int .i64 (Go.bitLen Q:Nat)) F rfl rfl (t:=7) (c:=b0) (e:=(!b0)) rfl rfl (by simp) rfl (by rfl) (fun he=>run_callF Tryd.func32 (by kernel_rfl) (by rfl) (.cons (F.evg rfl he) .nil) _) (fun he=>(fun w=>bits_any Q hQ w) _) fun a w z F=>?_
 replace HM:=HM.on z
 clear z
 refine lx_valG (v:=.bool b1) F rfl rfl (t:=7) (c:=b0) (e:=(!b0)) rfl rfl (by simp) rfl (by rfl) (fun he=>o_gtrI (m:=(Go.bitLen Q:Nat)) hb1 (F.evg rfl he) rfl) fun a F=>?_
 refine lx_value (v:=.bool ((b0 || b1))) F (wanted_none rfl _) rfl (by rfl) (o_pickO (F.ev rfl) rfl (F.ev rfl)) fun a F=>?_
 refine lx_value (v:=.bool ((b0 || b1))) F (wanted_none rfl _) rfl (by rfl) (o_move (F.ev rfl)) fun a F=>?_
 refine lx_valG (v:=.pointer (some ⟨gg,0,none⟩)) F rfl rfl (t:=13) (c:=(b0 || b1)) (e:=(!((b0 || b1)))) rfl rfl (by simp) rfl (by rfl) (fun he=>o_fieldG0 (F.ev rfl)) fun a F=>?_
 refine lx_valG (v:=.pointer (some ⟨gg,0,none⟩)) F rfl rfl (t:=13) (c:=(b0 || b1)) (e:=(!((b0 || b1)))) rfl rfl (by simp) rfl (by rfl) (fun he=>o_idxW0 (F.evg rfl he) rfl) fun a F=>?_
 refine lx_valG (v:=.int .u64 (wd P 0:Nat)) F rfl rfl (t:=13) (c:=(b0 || b1)) (e:=(!((b0 || b1)))) rfl rfl (by simp) rfl (by rfl) (fun he=>o_loadW (F.evg rfl he) (HM.get 0 rfl) rfl) fun a F=>?_
 refine lx_valG (v:=.pointer (some ⟨gg,4,none⟩)) F rfl rfl (t:=13) (c:=(b0 || b1)) (e:=(!((b0 || b1)))) rfl rfl (by simp) rfl (by rfl) (fun he=>o_fieldG1 (F.ev rfl)) fun a F=>?_
 refine lx_valG (v:=.pointer (some ⟨gg,4,none⟩)) F rfl rfl (t:=13) (c:=(b0 || b1)) (e:=(!((b0 || b1)))) rfl rfl (by simp) rfl (by rfl) (fun he=>o_idxW0 (F.evg rfl he) rfl) fun a F=>?_
 refine lx_valG (v:=.int .u64 (wd Q 0:Nat)) F rfl rfl (t:=13) (c:=(b0 || b1)) (e:=(!((b0 || b1)))) rfl rfl (by simp) rfl (by rfl) (fun he=>o_loadW (F.evg rfl he) (HM.get 0 rfl) rfl) fun a F=>?_
 refine lx_valG (v:=.int .u64 ((2*wd Q 0%18446744073709551616:Nat):Int)) F rfl rfl (t:=13) (c:=(b0 || b1)) (e:=(!((b0 || b1)))) rfl rfl (by simp) rfl (by rfl) (fun he=>o_twice1 (wd_64 _ _) rfl rfl (F.evg rfl he)) fun a F=>?_
 refine lx_valG (v:=.int .u64 (((2*wd Q 0%18446744073709551616+1)%18446744073709551616:Nat):Int)) F rfl rfl (t:=13) (c:=(b0 || b1)) (e:=(!((b0 || b1)))) rfl rfl (by simp) rfl (by rfl) (fun he=>o_next1 (Nat.mod_lt _ (by decide)) rfl (F.evg rfl he) rfl) fun a F=>?_
 refine lx_valG (v:=.bool b2) F rfl rfl (t:=13) (c:=(b0 || b1)) (e:=(!((b0 || b1)))) rfl rfl (by simp) rfl (by rfl) (fun he=>o_neqW hb2 (F.evg rfl he) (F.evg rfl he)) fun a F=>?_
 refine lx_value (v:=.bool (((b0 || b1) || b2))) F (wanted_none rfl _) rfl (by rfl) (o_pickO (F.ev rfl) rfl (F.ev rfl)) fun a F=>?_
 refine lx_nil ?_
 rcases hb:((b0 || b1) || b2) with _ | _ <;> rw [hb] at F
 ·repeat (first | refine ex_then ?_ | refine ex_block ?_ | refine wp_seq ?_ | refine wp_block ?_ | refine wp_skip ?_)
  refine wp_cond_false (F.ev rfl) ?_
  repeat (first | refine ex_then ?_ | refine ex_block ?_ | refine wp_seq ?_ | refine wp_block ?_ | refine wp_skip ?_)
  refine sx_enterR (S:=fun w'=>Mem _ _ w' [(gg,26,gcs P Q G H)]) HM (fun _ h=>h) (by kernel_rfl) fun w HM HBW=>?_
  clear HBW
  try simp only [List.append_eq,List.cons_append,List.nil_append]
  refine sx_batch [⟨0,24,[],.val (.pointer (some ⟨gg,0,none⟩)),true⟩,
   ⟨1,25,[0],.val (.pointer (some ⟨gg,0,none⟩)),true⟩,
   ⟨2,26,[1],.val (.int .u64 (wd P 0:Nat)),true⟩,
   ⟨3,27,[2],.val (.bool c0),false⟩,
   ⟨4,28,[3],.val (.bool c0),true⟩,
   ⟨5,29,[4],.val (gv c0 (.pointer (some ⟨gg,4,none⟩))),true⟩,
   ⟨6,30,[4,5],.val (gv c0 (.pointer (some ⟨gg,4,none⟩))),true⟩,
   ⟨7,31,[4,6],.val (gv c0 (.int .u64 (wd Q 0:Nat))),true⟩,
   ⟨8,32,[4,7],.val (gv c0 (.bool c1)),false⟩,
   ⟨9,33,[4,8],.val (.bool ((c0 && c1))),true⟩,
   ⟨10,34,[9],.val (.bool ((c0 && c1))),true⟩,
   ⟨11,35,[10],.val (gv ((c0 && c1)) (grp P Q G H)),true⟩,
   ⟨12,36,[10,11],.val (gv ((c0 && c1)) (.pointer (some ⟨gg,8,none⟩))),true⟩,
   ⟨13,37,[10,12],.val (gv ((c0 && c1)) (num G)),true⟩,
   ⟨14,38,[10,11,13],.val (gv ((c0 && c1)) (.bool c2)),false⟩,
   ⟨15,39,[10,14],.val (.bool (((c0 && c1) && c2))),true⟩,
   ⟨16,40,[15],.val (.bool (((c0 && c1) && c2))),true⟩,
   ⟨17,41,[16],.val (gv (((c0 && c1) && c2)) (grp P Q G H)),true⟩,
   ⟨18,42,[16,17],.val (gv (((c0 && c1) && c2)) (.pointer (some ⟨gg,12,none⟩))),true⟩,
   ⟨19,43,[16,18],.val (gv (((c0 && c1) && c2)) (num H)),true⟩,
   ⟨20,44,[16,17,19],.val (gv (((c0 && c1) && c2)) (.bool c3)),false⟩,
   ⟨21,45,[16,20],.val (.bool ((((c0 && c1) && c2) && c3))),true⟩,
   ⟨22,46,[21],.val (.bool ((((c0 && c1) && c2) && c3))),true⟩,
   ⟨23,47,[22],.val (gv ((((c0 && c1) && c2) && c3)) (.pointer (some ⟨gg,8,none⟩))),true⟩,
   ⟨24,48,[22,23],.val (gv ((((c0 && c1) && c2) && c3)) (num G)),true⟩,
   ⟨25,49,[22,24],.val (gv ((((c0 && c1) && c2) && c3)) (num 1)),false⟩,
   ⟨26,50,[22,24,25],.val (gv ((((c0 && c1) && c2) && c3)) (.bool c4)),true⟩,
   ⟨27,51,[22,26],.val (.bool (((((c0 && c1) && c2) && c3) && c4))),true⟩,
   ⟨28,52,[27],.val (.bool (((((c0 && c1) && c2) && c3) && c4))),true⟩,
   ⟨29,53,[28],.val (gv (((((c0 && c1) && c2) && c3) && c4)) (.pointer (some ⟨gg,12,none⟩))),true⟩,
   ⟨30,54,[28,29],.val (gv (((((c0 && c1) && c2) && c3) && c4)) (num H)),true⟩,
   ⟨31,55,[28,30],.val (gv (((((c0 && c1) && c2) && c3) && c4)) (num 1)),false⟩,
   ⟨32,56,[28,30,31],.val (gv (((((c0 && c1) && c2) && c3) && c4)) (.bool c5)),true⟩,
   ⟨33,57,[28,32],.val (.bool ((((((c0 && c1) && c2) && c3) && c4) && c5))),true⟩] 1 _ F HM (fun _ h=>h.subl (by first | exact List.Sublist.refl _ | (repeat (first | exact List.Sublist.refl _ | refine List.Sublist.cons_cons _ ?_ | refine List.Sublist.cons _ ?_)))) (by kernel_rfl) (by rfl) ?_ ?_ ?_ ?_ ?_ ?_ ?_
  ·kernel_rfl
  ·exact of_decide_eq_true (by kernel_rfl)
  ·(repeat refine all_cons ⟨_,by rfl,by rfl⟩ ?_);exact all_nil
  ·kernel_rfl
  ·(repeat (refine all_cons ?_ ?_;rotate_left));exact all_nil
   ·exact coreS _ _ _ _ _ _ _ (by rfl) (by rfl) (wants_none) (fun ρ w kn hs=>o_fieldG0 (kn _ _ (F.old (by rfl) rfl)))
   ·exact coreS _ _ _ _ _ _ _ (by rfl) (by rfl) (wants_none) (fun ρ w kn hs=>o_idxW0 (kn _ _ (kc 0 24)) (kn _ _ (known_const _)))
   ·exact coreS _ _ _ _ _ _ _ (by rfl) (by rfl) (wants_none) (fun ρ w kn hs=>o_loadW (kn _ _ (kc 1 25)) (hs.get 0 rfl) rfl)
   ·exact core_pureAs _ (by rfl)
   ·exact coreS _ _ _ _ _ _ _ (by rfl) (by rfl) (wants_none) (fun ρ w kn hs=>o_move (kn _ _ (kc 3 27)))
   ·exact coreS_gv _ _ _ _ _ _ _ _ _ (by rfl) (by rfl) (wants_core 4 28 4 _ c0 _ (by rfl) (by rfl) (by rfl) (kc 4 28) _ (by simp)) (fun he ρ w kn hs=>o_fieldG1 (kn _ _ (F.old (by rfl) rfl)))
   ·exact coreS_gv _ _ _ _ _ _ _ _ _ (by rfl) (by rfl) (wants_core 4 28 4 _ c0 _ (by rfl) (by rfl) (by rfl) (kc 4 28) _ (by simp)) (fun he ρ w kn hs=>o_idxW0 (kn _ _ ((known_gv he (kc 5 29)))) (kn _ _ (known_const _)))
   ·exact coreS_gv _ _ _ _ _ _ _ _ _ (by rfl) (by rfl) (wants_core 4 28 4 _ c0 _ (by rfl) (by rfl) (by rfl) (kc 4 28) _ (by simp)) (fun he ρ w kn hs=>o_loadW (kn _ _ ((known_gv he (kc 6 30)))) (hs.get 0 rfl) rfl)
   ·exact core_pureAs _ (by rfl)
   ·exact coreS _ _ _ _ _ _ _ (by rfl) (by rfl) (wants_none) (fun ρ w kn hs=>o_pickA (kn _ _ (kc 4 28)) (kn _ _ (kc 8 32)) (kn _ _ (known_const _)))
   ·exact coreS _ _ _ _ _ _ _ (by rfl) (by rfl) (wants_none) (fun ρ w kn hs=>o_move (kn _ _ (kc 9 33)))
   ·exact coreS_gv _ _ _ _ _ _ _ _ _ (by rfl) (by rfl) (wants_core 10 34 10 _ (c0 && c1) _ (by rfl) (by rfl) (by rfl) (kc 10 34) _ (by simp)) (fun he ρ w kn hs=>o_loadG (kn _ _ (F.old (by rfl) rfl)) (hs.get 0 rfl))
   ·exact coreS_gv _ _ _ _ _ _ _ _ _ (by rfl) (by rfl) (wants_core 10 34 10 _ (c0 && c1) _ (by rfl) (by rfl) (by rfl) (kc 10 34) _ (by simp)) (fun he ρ w kn hs=>o_fieldG2 (kn _ _ (F.old (by rfl) rfl)))
   ·exact coreS_gv _ _ _ _ _ _ _ _ _ (by rfl) (by rfl) (wants_core 10 34 10 _ (c0 && c1) _ (by rfl) (by rfl) (by rfl) (kc 10 34) _ (by simp)) (fun he ρ w kn hs=>o_loadG2 (kn _ _ ((known_gv he (kc 12 36)))) (hs.get 0 rfl))
   ·exact core_pureAs _ (by rfl)
   ·exact coreS _ _ _ _ _ _ _ (by rfl) (by rfl) (wants_none) (fun ρ w kn hs=>o_pickA (kn _ _ (kc 10 34)) (kn _ _ (kc 14 38)) (kn _ _ (known_const _)))
   ·exact coreS _ _ _ _ _ _ _ (by rfl) (by rfl) (wants_none) (fun ρ w kn hs=>o_move (kn _ _ (kc 15 39)))
   ·exact coreS_gv _ _ _ _ _ _ _ _ _ (by rfl) (by rfl) (wants_core 16 40 16 _ ((c0 && c1) && c2) _ (by rfl) (by rfl) (by rfl) (kc 16 40) _ (by simp)) (fun he ρ w kn hs=>o_loadG (kn _ _ (F.old (by rfl) rfl)) (hs.get 0 rfl))
   ·exact coreS_gv _ _ _ _ _ _ _ _ _ (by rfl) (by rfl) (wants_core 16 40 16 _ ((c0 && c1) && c2) _ (by rfl) (by rfl) (by rfl) (kc 16 40) _ (by simp)) (fun he ρ w kn hs=>o_fieldG3 (kn _ _ (F.old (by rfl) rfl)))
   ·exact coreS_gv _ _ _ _ _ _ _ _ _ (by rfl) (by rfl) (wants_core 16 40 16 _ ((c0 && c1) && c2) _ (by rfl) (by rfl) (by rfl) (kc 16 40) _ (by simp)) (fun he ρ w kn hs=>o_loadG3 (kn _ _ ((known_gv he (kc 18 42)))) (hs.get 0 rfl))
   ·exact core_pureAs _ (by rfl)
   ·exact coreS _ _ _ _ _ _ _ (by rfl) (by rfl) (wants_none) (fun ρ w kn hs=>o_pickA (kn _ _ (kc 16 40)) (kn _ _ (kc 20 44)) (kn _ _ (known_const _)))
   ·exact coreS _ _ _ _ _ _ _ (by rfl) (by rfl) (wants_none) (fun ρ w kn hs=>o_move (kn _ _ (kc 21 45)))
   ·exact coreS_gv _ _ _ _ _ _ _ _ _ (by rfl) (by rfl) (wants_core 22 46 22 _ (((c0 && c1) && c2) && c3) _ (by rfl) (by rfl) (by rfl) (kc 22 46) _ (by simp)) (fun he ρ w kn hs=>o_fieldG2 (kn _ _ (F.old (by rfl) rfl)))
   ·exact coreS_gv _ _ _ _ _ _ _ _ _ (by rfl) (by rfl) (wants_core 22 46 22 _ (((c0 && c1) && c2) && c3) _ (by rfl) (by rfl) (by rfl) (kc 22 46) _ (by simp)) (fun he ρ w kn hs=>o_loadG2 (kn _ _ ((known_gv he (kc 23 47)))) (hs.get 0 rfl))
   ·exact core_pureAs _ (by rfl)
   ·exact coreS_gv _ _ _ _ _ _ _ _ _ (by rfl) (by rfl) (wants_core 22 46 22 _ (((c0 && c1) && c2) && c3) _ (by rfl) (by rfl) (by rfl) (kc 22 46) _ (by simp)) (fun he ρ w kn hs=>o_neqN' hG (by decide) hc4 (kn _ _ ((known_gv he (kc 24 48)))) (kn _ _ ((known_gv he (kc 25 49)))))
   ·exact coreS _ _ _ _ _ _ _ (by rfl) (by rfl) (wants_none) (fun ρ w kn hs=>o_pickA (kn _ _ (kc 22 46)) (kn _ _ (kc 26 50)) (kn _ _ (known_const _)))
   ·exact coreS _ _ _ _ _ _ _ (by rfl) (by rfl) (wants_none) (fun ρ w kn hs=>o_move (kn _ _ (kc 27 51)))
   ·exact coreS_gv _ _ _ _ _ _ _ _ _ (by rfl) (by rfl) (wants_core 28 52 28 _ ((((c0 && c1) && c2) && c3) && c4) _ (by rfl) (by rfl) (by rfl) (kc 28 52) _ (by simp)) (fun he ρ w kn hs=>o_fieldG3 (kn _ _ (F.old (by rfl) rfl)))
   ·exact coreS_gv _ _ _ _ _ _ _ _ _ (by rfl) (by rfl) (wants_core 28 52 28 _ ((((c0 && c1) && c2) && c3) && c4) _ (by rfl) (by rfl) (by rfl) (kc 28 52) _ (by simp)) (fun he ρ w kn hs=>o_loadG3 (kn _ _ ((known_gv he (kc 29 53)))) (hs.get 0 rfl))
   ·exact core_pureAs _ (by rfl)
   ·exact coreS_gv _ _ _ _ _ _ _ _ _ (by rfl) (by rfl) (wants_core 28 52 28 _ ((((c0 && c1) && c2) && c3) && c4) _ (by rfl) (by rfl) (by rfl) (kc 28 52) _ (by simp)) (fun he ρ w kn hs=>o_neqN' hH (by decide) hc5 (kn _ _ ((known_gv he (kc 30 54)))) (kn _ _ ((known_gv he (kc 31 55)))))
   ·exact coreS _ _ _ _ _ _ _ (by rfl) (by rfl) (wants_none) (fun ρ w kn hs=>o_pickA (kn _ _ (kc 28 52)) (kn _ _ (kc 32 56)) (kn _ _ (known_const _)))
  ·(repeat (refine all_cons ?_ ?_;rotate_left));exact all_nil
   ·exact sA
   ·exact sA
   ·exact sA
   ·exact fun _=>coreG_call _ 33 _ _ [.tmp 26] _ _ _ _ _ _ _ (by rfl) Tryd.func33 (by kernel_rfl) (by rfl) (by rfl) (wants_none) (.cons (kc 2 26) .nil) ((fun w=>small_is hc0 (wd_64 _ _) w))
   ·exact sA
   ·exact sA
   ·exact sA
   ·exact sA
   ·exact fun _=>coreG_callgv _ 33 _ _ [.tmp 31] _ _ _ _ _ _ _ _ _ (by rfl) Tryd.func33 (by kernel_rfl) (by rfl) (by rfl) (wants_core 4 28 4 _ c0 _ (by rfl) (by rfl) (by rfl) (kc 4 28) _ (by simp)) (fun he=>(.cons ((known_gv he (kc 7 31))) .nil)) (fun he=>(fun w=>small_is hc1 (wd_64 _ _) w))
   ·exact sA
   ·exact sA
   ·exact sA
   ·exact sA
   ·exact sA
   ·exact fun _=>coreG_callgv _ 16 _ _ [.tmp 35,.tmp 37] _ _ _ _ _ _ _ _ _ (by rfl) Tryd.func16 (by kernel_rfl) (by rfl) (by rfl) (wants_core 10 34 10 _ (c0 && c1) _ (by rfl) (by rfl) (by rfl) (kc 10 34) _ (by simp)) (fun he=>(.cons ((known_gv he (kc 11 35))) (.cons ((known_gv he (kc 13 37))) .nil))) (fun he=>(fun w=>gin_is P Q G H G hc2 hP hQ hG w))
   ·exact sA
   ·exact sA
   ·exact sA
   ·exact sA
   ·exact sA
   ·exact fun _=>coreG_callgv _ 16 _ _ [.tmp 41,.tmp 43] _ _ _ _ _ _ _ _ _ (by rfl) Tryd.func16 (by kernel_rfl) (by rfl) (by rfl) (wants_core 16 40 16 _ ((c0 && c1) && c2) _ (by rfl) (by rfl) (by rfl) (kc 16 40) _ (by simp)) (fun he=>(.cons ((known_gv he (kc 17 41))) (.cons ((known_gv he (kc 19 43))) .nil))) (fun he=>(fun w=>gin_is P Q G H H hc3 hP hQ hH w))
   ·exact sA
   ·exact sA
   ·exact sA
   ·exact sA
   ·exact fun _=>coreG_callgv _ 34 _ _ [.const (.int .u64 1)] _ _ _ _ _ _ _ _ _ (by rfl) Tryd.func34 (by kernel_rfl) (by rfl) (by rfl) (wants_core 22 46 22 _ (((c0 && c1) && c2) && c3) _ (by rfl) (by rfl) (by rfl) (kc 22 46) _ (by simp)) (fun he=>(.cons (known_const _) .nil)) (fun he=>(fun w=>of8_any 1 (by decide) w))
   ·exact sA
   ·exact sA
   ·exact sA
   ·exact sA
   ·exact sA
   ·exact fun _=>coreG_callgv _ 34 _ _ [.const (.int .u64 1)] _ _ _ _ _ _ _ _ _ (by rfl) Tryd.func34 (by kernel_rfl) (by rfl) (by rfl) (wants_core 28 52 28 _ ((((c0 && c1) && c2) && c3) && c4) _ (by rfl) (by rfl) (by rfl) (kc 28 52) _ (by simp)) (fun he=>(.cons (known_const _) .nil)) (fun he=>(fun w=>of8_any 1 (by decide) w))
   ·exact sA
   ·exact sA
  intro gs rs a w hgs hrs F HM HBW HR HO HT
  obtain rfl:=nl0 rs hrs
  obtain rfl:=nl0 gs hgs
  clear hrs hgs HR HBW HO
  clear HT
  refine sx_assign (i:=34) (d:=2) (x:=.tmp 57) (v:=.bool ((((((c0 && c1) && c2) && c3) && c4) && c5))) F ((HM.subl (by first | exact List.Sublist.refl _ | (repeat (first | exact List.Sublist.refl _ | refine List.Sublist.cons_cons _ ?_ | refine List.Sublist.cons _ ?_))))) (by kernel_rfl) (by rfl) (by rfl) (F.ev rfl) fun a F=>?_
  refine sx_done (by kernel_rfl) ?_ _
  repeat (first | refine ex_then ?_ | refine ex_block ?_ | refine wp_seq ?_ | refine wp_block ?_ | refine wp_skip ?_)
  refine wp_ret ?_
  repeat (first | refine ex_thenR ?_ | refine ex_blockR ?_)
  exact sx_ret F HM (res_tmp F rfl (s:=2) rfl)
 ·repeat (first | refine ex_then ?_ | refine ex_block ?_ | refine wp_seq ?_ | refine wp_block ?_ | refine wp_skip ?_)
  refine wp_cond_true (F.ev rfl) ?_
  repeat (first | refine ex_then ?_ | refine ex_block ?_ | refine wp_seq ?_ | refine wp_block ?_ | refine wp_skip ?_)
  refine wp_region_lit ?_
  refine lx_value (v:=.bool false) F (wanted_none rfl _) rfl (by rfl) (o_assign rfl) fun a F=>?_
  refine lx_nil ?_
  repeat (first | refine ex_then ?_ | refine ex_block ?_ | refine wp_seq ?_ | refine wp_block ?_ | refine wp_skip ?_)
  refine wp_ret ?_
  repeat (first | refine ex_thenR ?_ | refine ex_blockR ?_)
  exact sx_ret F HM (res_tmp F rfl (s:=2) rfl)

/-- a group of small primes -/
noncomputable def goodB (P Q G H:Nat):Bool:=!((decide ((32:Int)<(Go.bitLen P:Nat)) || decide ((31:Int)<(Go.bitLen Q:Nat))) || decide (wd P 0≠(2*wd Q 0%18446744073709551616+1)%18446744073709551616)) && (((((smallB (wd P 0) && smallB (wd Q 0)) && inB P Q G) && inB P Q H) && !decide (G=1)) && !decide (H=1))
theorem good_is {b:Bool} (P Q G H:Nat) (h:goodB P Q G H=b) (hP:P<2^256) (hQ:Q<2^256) (hG:G<2^256) (hH:H<2^256) (w0:World):Calls Tryd.prog 18 #[grp P Q G H] w0 fun e w'=>e=.returned (.bool b)∧Below w0.heap.size w0 w':=by
 subst h;exact good_w P Q G H hP hQ hG hH w0 _ _ _ _ _ _ _ _ _ rfl rfl rfl rfl rfl rfl rfl rfl rfl
set_option maxRecDepth 100000 in
set_option maxHeartbeats 800000 in
theorem isKey_w (P Q G H K:Nat) (hP:P<2^256) (hQ:Q<2^256) (hK:K<2^256) (w0:World) (b0 b1:Bool) (hb0:(!decide (K=1))=b0) (hb1:inB P Q K=b1):Calls Tryd.prog 24 #[grp P Q G H,num K] w0 fun e w'=>e=.returned (.bool (b0 && b1))∧Below w0.heap.size w0 w':=by
 refine sx_enter (args:=[grp P Q G H,num K]) Tryd.func24 rfl Tryd.ntmps24 (by rfl) fun a F HM=>?_
 repeat (first | refine ex_then ?_ | refine ex_block ?_ | refine wp_seq ?_ | refine wp_block ?_ | refine wp_skip ?_)
 refine wp_region_lit ?_
 refine lx_new F HM (wanted_none rfl _) rfl (by rfl) (o_boxG (F.ev rfl)) fun a w gg F HM=>?_
 refine lx_new F HM (wanted_none rfl _) rfl (by rfl) (o_boxN (F.ev rfl)) fun a w gk F HM=>?_
 refine lx_value (v:=.bool false) F (wanted_none rfl _) rfl (by rfl) (o_assign rfl) fun a F=>?_
 refine lx_nil ?_
 repeat (first | refine ex_then ?_ | refine ex_block ?_ | refine wp_seq ?_ | refine wp_block ?_ | refine wp_skip ?_)
 refine wp_region_lit ?_
 refine lx_value (v:=num K) F (wanted_none rfl _) rfl (by rfl) (o_loadN (F.ev rfl) (HM.get 0 rfl)) fun a F=>?_
 refine lx_value (v:=num 1) F (wanted_none rfl _) rfl (by rfl) (o_buildW 1 (by decide) rfl) fun a F=>?_
 refine lx_value (v:=.bool b0) F (wanted_none rfl _) rfl (by rfl) (o_neqN' hK (by decide) hb0 (F.ev rfl) (F.ev rfl)) fun a F=>?_
 refine lx_value (v:=.bool b0) F (wanted_none rfl _) rfl (by rfl) (o_move (F.ev rfl)) fun a F=>?_
 refine lx_valG (v:=grp P Q G H) F rfl rfl (t:=8) (c:=b0) (e:=b0) rfl rfl (by simp) rfl (by rfl) (fun he=>o_loadG (F.ev rfl) (HM.get 1 rfl)) fun a F=>?_
 refine lx_valG (v:=num K) F rfl rfl (t:=8) (c:=b0) (e:=b0) rfl rfl (by simp) rfl (by rfl) (fun he=>o_loadN (F.ev rfl) (HM.get 0 rfl)) fun a F=>?_
 refine lx_callG (v:=.bool b1) F rfl rfl (t:=8) (c:=b0) (e:=b0) rfl rfl (by simp) rfl (by rfl) (fun he=>run_callF Tryd.func16 (by kernel_rfl) (by rfl) (.cons (F.evg rfl he) (.cons (F.evg rfl he) .nil)) _) (fun he=>(fun w=>gin_is P Q G H K hb1 hP hQ hK w) _) fun a w z F=>?_
 replace HM:=HM.on z
 clear z
 refine lx_value (v:=.bool ((b0 && b1))) F (wanted_none rfl _) rfl (by rfl) (o_pickA (F.ev rfl) (F.ev rfl) rfl) fun a F=>?_
 refine lx_value (v:=.bool ((b0 && b1))) F (wanted_none rfl _) rfl (by rfl) (o_assign (F.ev rfl)) fun a F=>?_
 refine lx_nil ?_
 repeat (first | refine ex_then ?_ | refine ex_block ?_ | refine wp_seq ?_ | refine wp_block ?_ | refine wp_skip ?_)
 refine wp_ret ?_
 repeat (first | refine ex_thenR ?_ | refine ex_blockR ?_)
 exact sx_ret F HM (res_tmp F rfl (s:=4) rfl)

noncomputable def keyB (P Q K:Nat):Bool:=!decide (K=1) && inB P Q K
theorem isKey_is {b:Bool} (P Q G H K:Nat) (h:keyB P Q K=b) (hP:P<2^256) (hQ:Q<2^256) (hK:K<2^256) (w0:World):Calls Tryd.prog 24 #[grp P Q G H,num K] w0 fun e w'=>e=.returned (.bool b)∧Below w0.heap.size w0 w':=by
 subst h;exact isKey_w P Q G H K hP hQ hK w0 _ _ rfl rfl
end Go.Proofs.YtlphnfajhpkleaaDoor
