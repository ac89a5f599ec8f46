import Derived.Deep.Cut
import Derived.Test.YtmmgmljkmmgjdaaGreatDoorMOpenZ
import Derived.Test.YtmmgmljkmmgjdaaGreatDoorMTree
namespace Go.Proofs.YtmmgmljkmmgjdaaGreatDoor
set_option maxRecDepth 100000
set_option maxHeartbeats 8000000
open Go.RowKit
set_option linter.unusedSimpArgs false
set_option linter.unusedVariables false
attribute [local go_sem ↓] Go.wp_at_zero Go.wp_at_succ

theorem Jas {f:FuncId} {fn:Func} {HT tp tz:TypeId} {c:Nat} {ps p0:String} {e0 e1 e2 e3 e4 e5 e6 f0:Array Edge} {REST:Code} {N gB n0:Nat} {v:Nat→Value} {R:List (Nat × TypeId × Array Value)} {w0 w:World} (HM:Mem n0 w0 w ((gB,57,bkc N v)::R)) (hv:(bkc N v)[c]? = some (.slice none 0 0)) (hf:Tryz.prog.funcs[f]? = some fn) (hb:fn.body=some ((Code.region 0 #[⟨some 2,.assign (.const (.int .i64 0)),3,p0,f0,none⟩] false).seq (Code.block 0 ((((Code.region 1 #[⟨some 5,.move (.tmp 2),3,ps,e0,none⟩,⟨some 6,.move (.tmp 0),tp,ps,e1,none⟩,⟨some 7,.nilCheck (.tmp 6),tz,ps,e2,none⟩,⟨some 8,.fieldAddr 57 (.tmp 7) c,tz,ps,e3,none⟩,⟨some 9,.load HT (.tmp 8),HT,ps,e4,none⟩,⟨some 10,.call { callee:=.builtin .len,args:=#[.tmp 9],argTypes:=#[HT] },3,ps,e5,none⟩,⟨some 11,.binOp .lss 3 (.tmp 5) (.tmp 10) 3,4,ps,e6,none⟩] false).seq (Code.cond (.tmp 11) .skip (.exit 0))).seq REST).loop)))) (hN:fn.ntmps=35) (hr:fn.results=#[])
  (hfi:∀ (ρ:Operand→Value) (w:World) (g:Nat),ρ (.tmp 7)=.pointer (some ⟨g,0,none⟩)→(execOp ρ ⟨some 8,.fieldAddr 57 (.tmp 7) c,tz,ps,e3,none⟩).run Tryz.prog w=.ok (.value (.pointer (some ⟨g,c,none⟩))) w)
  (hld:∀ (ρ:Operand→Value) (w:World) (g:Nat),ρ (.tmp 8)=.pointer (some ⟨g,c,none⟩)→w.cell? ⟨g,c,none⟩=some (.slice none 0 0)→(execOp ρ ⟨some 9,.load HT (.tmp 8),HT,ps,e4,none⟩).run Tryz.prog w=.ok (.value (.slice none 0 0)) w)
  (hln:∀ (ρ:Operand→Value) (w:World),ρ (.tmp 9)=.slice none 0 0→(execOp ρ ⟨some 10,.call { callee:=.builtin .len,args:=#[.tmp 9],argTypes:=#[HT] },3,ps,e5,none⟩).run Tryz.prog w=.ok (.value (.int .i64 (0:Nat))) w) :
  Calls Tryz.prog f #[.pointer (some ⟨gB,0,none⟩)] w fun e w'=>e=.returned (.tuple #[])∧Mem n0 w0 w' ((gB,57,bkc N v)::R):=by
 refine Uf (args:=[.pointer (some ⟨gB,0,none⟩)]) HM hf hb hN (by rfl) fun a F HM=>?_
 refine Kgr ?_
 refine lxv (.int .i64 0) F (Je rfl) fun a F=>?_
 refine Jc ?_
 refine Kgq ?_
 refine wp_loop (fun a w=>Fr a 35 [(2,.int .i64 0),(0,.pointer (some ⟨gB,0,none⟩))] []∧Mem n0 w0 w ((gB,57,bkc N v)::R)) (fun _ _=>0) ⟨F.sub [2,0],HM⟩ ?_
 clear F HM
 rintro a w ⟨F,HM⟩
 refine Kgr ?_
 refine lxv (.int .i64 0) F (Jb (F.ev rfl)) fun a F=>?_
 refine lxv (.pointer (some ⟨gB,0,none⟩)) F (Jb (F.ev rfl)) fun a F=>?_
 refine lxv (.pointer (some ⟨gB,0,none⟩)) F (Ki (F.ev rfl)) fun a F=>?_
 refine lxv (.pointer (some ⟨gB,c,none⟩)) F (hfi _ _ _ (F.ev rfl)) fun a F=>?_
 refine lxv (.slice none 0 0) F (hld _ _ _ (F.ev rfl) (((HM.get 0 rfl).cell c).trans hv)) fun a F=>?_
 refine lxv (.int .i64 (0:Nat)) F (hln _ _ (F.ev rfl)) fun a F=>?_
 refine lxv (.bool false) F (Jz (u:=.int .i64 0) (v:=.int .i64 (0:Nat)) (fun ρ hx hy=>by simp only [execOp,hx,hy];simp [go_sem]) (F.ev rfl) (F.ev rfl)) fun a F=>?_
 refine Jc ?_
 refine Kgq ?_
 refine wp_cond_false (F.ev rfl) ?_
 refine Kgq ?_
 refine wp_exit ?_
 repeat (first | refine Kk ?_ | refine Kd ?_)
 refine Kgq ?_
 exact bodyPost_end (Vk hr) F.defers ⟨rfl,HM⟩
theorem Jar {f:FuncId} {fn:Func} {HT tp tz:TypeId} {c:Nat} {ps p0:String} {e0 e1 e2 e3 e4 e5 e6 f0:Array Edge} {REST:Code} {N gB n0:Nat} {v:Nat→Value} {R:List (Nat × TypeId × Array Value)} {w0 w:World} (HM:Mem n0 w0 w ((gB,57,bkc N v)::R)) (hv:(bkc N v)[c]? = some (.slice none 0 0)) (hf:Tryz.prog.funcs[f]? = some fn) (hb:fn.body=some ((Code.region 0 #[⟨some 2,.assign (.const (.int .i64 0)),3,p0,f0,none⟩] false).seq (Code.block 0 ((((Code.region 1 #[⟨some 6,.move (.tmp 2),3,ps,e0,none⟩,⟨some 7,.move (.tmp 0),tp,ps,e1,none⟩,⟨some 8,.nilCheck (.tmp 7),tz,ps,e2,none⟩,⟨some 9,.fieldAddr 57 (.tmp 8) c,tz,ps,e3,none⟩,⟨some 10,.load HT (.tmp 9),HT,ps,e4,none⟩,⟨some 11,.call { callee:=.builtin .len,args:=#[.tmp 10],argTypes:=#[HT] },3,ps,e5,none⟩,⟨some 12,.binOp .lss 3 (.tmp 6) (.tmp 11) 3,4,ps,e6,none⟩] false).seq (Code.cond (.tmp 12) .skip (.exit 0))).seq REST).loop)))) (hN:fn.ntmps=42) (hr:fn.results=#[])
  (hfi:∀ (ρ:Operand→Value) (w:World) (g:Nat),ρ (.tmp 8)=.pointer (some ⟨g,0,none⟩)→(execOp ρ ⟨some 9,.fieldAddr 57 (.tmp 8) c,tz,ps,e3,none⟩).run Tryz.prog w=.ok (.value (.pointer (some ⟨g,c,none⟩))) w)
  (hld:∀ (ρ:Operand→Value) (w:World) (g:Nat),ρ (.tmp 9)=.pointer (some ⟨g,c,none⟩)→w.cell? ⟨g,c,none⟩=some (.slice none 0 0)→(execOp ρ ⟨some 10,.load HT (.tmp 9),HT,ps,e4,none⟩).run Tryz.prog w=.ok (.value (.slice none 0 0)) w)
  (hln:∀ (ρ:Operand→Value) (w:World),ρ (.tmp 10)=.slice none 0 0→(execOp ρ ⟨some 11,.call { callee:=.builtin .len,args:=#[.tmp 10],argTypes:=#[HT] },3,ps,e5,none⟩).run Tryz.prog w=.ok (.value (.int .i64 (0:Nat))) w) :
  Calls Tryz.prog f #[.pointer (some ⟨gB,0,none⟩)] w fun e w'=>e=.returned (.tuple #[])∧Mem n0 w0 w' ((gB,57,bkc N v)::R):=by
 refine Uf (args:=[.pointer (some ⟨gB,0,none⟩)]) HM hf hb hN (by rfl) fun a F HM=>?_
 refine Kgr ?_
 refine lxv (.int .i64 0) F (Je rfl) fun a F=>?_
 refine Jc ?_
 refine Kgq ?_
 refine wp_loop (fun a w=>Fr a 42 [(2,.int .i64 0),(0,.pointer (some ⟨gB,0,none⟩))] []∧Mem n0 w0 w ((gB,57,bkc N v)::R)) (fun _ _=>0) ⟨F.sub [2,0],HM⟩ ?_
 clear F HM
 rintro a w ⟨F,HM⟩
 refine Kgr ?_
 refine lxv (.int .i64 0) F (Jb (F.ev rfl)) fun a F=>?_
 refine lxv (.pointer (some ⟨gB,0,none⟩)) F (Jb (F.ev rfl)) fun a F=>?_
 refine lxv (.pointer (some ⟨gB,0,none⟩)) F (Ki (F.ev rfl)) fun a F=>?_
 refine lxv (.pointer (some ⟨gB,c,none⟩)) F (hfi _ _ _ (F.ev rfl)) fun a F=>?_
 refine lxv (.slice none 0 0) F (hld _ _ _ (F.ev rfl) (((HM.get 0 rfl).cell c).trans hv)) fun a F=>?_
 refine lxv (.int .i64 (0:Nat)) F (hln _ _ (F.ev rfl)) fun a F=>?_
 refine lxv (.bool false) F (Jz (u:=.int .i64 0) (v:=.int .i64 (0:Nat)) (fun ρ hx hy=>by simp only [execOp,hx,hy];simp [go_sem]) (F.ev rfl) (F.ev rfl)) fun a F=>?_
 refine Jc ?_
 refine Kgq ?_
 refine wp_cond_false (F.ev rfl) ?_
 refine Kgq ?_
 refine wp_exit ?_
 repeat (first | refine Kk ?_ | refine Kd ?_)
 refine Kgq ?_
 exact bodyPost_end (Vk hr) F.defers ⟨rfl,HM⟩
theorem Jaq {f:FuncId} {fn:Func} {HT tp tz:TypeId} {c:Nat} {ps p0 p1 p12:String} {e0 e1 e2 e3 e4 e5 e6 f0 f1 f12:Array Edge} {REST:Code} {N gB n0:Nat} {v:Nat→Value} {R:List (Nat × TypeId × Array Value)} {w0 w:World} (HM:Mem n0 w0 w ((gB,57,bkc N v)::R)) (hv:(bkc N v)[c]? = some (.slice none 0 0)) (hf:Tryz.prog.funcs[f]? = some fn) (hb:fn.body=some ((Code.region 0 #[⟨some 2,.assign (.const (.bool false)),4,p0,f0,none⟩] false).seq (((Code.region 1 #[⟨some 3,.assign (.const (.int .i64 0)),3,p1,f1,none⟩] false).seq (Code.block 0 ((((Code.region 2 #[⟨some 6,.move (.tmp 3),3,ps,e0,none⟩,⟨some 7,.move (.tmp 0),tp,ps,e1,none⟩,⟨some 8,.nilCheck (.tmp 7),tz,ps,e2,none⟩,⟨some 9,.fieldAddr 57 (.tmp 8) c,tz,ps,e3,none⟩,⟨some 10,.load HT (.tmp 9),HT,ps,e4,none⟩,⟨some 11,.call { callee:=.builtin .len,args:=#[.tmp 10],argTypes:=#[HT] },3,ps,e5,none⟩,⟨some 12,.binOp .lss 3 (.tmp 6) (.tmp 11) 3,4,ps,e6,none⟩] false).seq (Code.cond (.tmp 12) .skip (.exit 0))).seq REST).loop))).seq ((Code.region 12 #[⟨some 2,.assign (.const (.bool true)),4,p12,f12,none⟩] false).seq Code.ret)))) (hN:fn.ntmps=64) (hr:fn.results=#[.tmp 2])
  (hfi:∀ (ρ:Operand→Value) (w:World) (g:Nat),ρ (.tmp 8)=.pointer (some ⟨g,0,none⟩)→(execOp ρ ⟨some 9,.fieldAddr 57 (.tmp 8) c,tz,ps,e3,none⟩).run Tryz.prog w=.ok (.value (.pointer (some ⟨g,c,none⟩))) w)
  (hld:∀ (ρ:Operand→Value) (w:World) (g:Nat),ρ (.tmp 9)=.pointer (some ⟨g,c,none⟩)→w.cell? ⟨g,c,none⟩=some (.slice none 0 0)→(execOp ρ ⟨some 10,.load HT (.tmp 9),HT,ps,e4,none⟩).run Tryz.prog w=.ok (.value (.slice none 0 0)) w)
  (hln:∀ (ρ:Operand→Value) (w:World),ρ (.tmp 10)=.slice none 0 0→(execOp ρ ⟨some 11,.call { callee:=.builtin .len,args:=#[.tmp 10],argTypes:=#[HT] },3,ps,e5,none⟩).run Tryz.prog w=.ok (.value (.int .i64 (0:Nat))) w) :
  Calls Tryz.prog f #[.pointer (some ⟨gB,0,none⟩)] w fun e w'=>e=.returned (.bool true)∧Mem n0 w0 w' ((gB,57,bkc N v)::R):=by
 refine Uf (args:=[.pointer (some ⟨gB,0,none⟩)]) HM hf hb hN (by rfl) fun a F HM=>?_
 refine Kgr ?_
 refine lxv (.bool false) F (Je rfl) fun a F=>?_
 refine Jc ?_
 refine Kgr ?_
 refine lxv (.int .i64 0) F (Je rfl) fun a F=>?_
 refine Jc ?_
 refine Kgq ?_
 refine wp_loop (fun a w=>Fr a 64 [(3,.int .i64 0),(0,.pointer (some ⟨gB,0,none⟩))] []∧Mem n0 w0 w ((gB,57,bkc N v)::R)) (fun _ _=>0) ⟨F.sub [3,0],HM⟩ ?_
 clear F HM
 rintro a w ⟨F,HM⟩
 refine Kgr ?_
 refine lxv (.int .i64 0) F (Jb (F.ev rfl)) fun a F=>?_
 refine lxv (.pointer (some ⟨gB,0,none⟩)) F (Jb (F.ev rfl)) fun a F=>?_
 refine lxv (.pointer (some ⟨gB,0,none⟩)) F (Ki (F.ev rfl)) fun a F=>?_
 refine lxv (.pointer (some ⟨gB,c,none⟩)) F (hfi _ _ _ (F.ev rfl)) fun a F=>?_
 refine lxv (.slice none 0 0) F (hld _ _ _ (F.ev rfl) (((HM.get 0 rfl).cell c).trans hv)) fun a F=>?_
 refine lxv (.int .i64 (0:Nat)) F (hln _ _ (F.ev rfl)) fun a F=>?_
 refine lxv (.bool false) F (Jz (u:=.int .i64 0) (v:=.int .i64 (0:Nat)) (fun ρ hx hy=>by simp only [execOp,hx,hy];simp [go_sem]) (F.ev rfl) (F.ev rfl)) fun a F=>?_
 refine Jc ?_
 refine Kgq ?_
 refine wp_cond_false (F.ev rfl) ?_
 refine Kgq ?_
 refine wp_exit ?_
 repeat (first | refine Kk ?_ | refine Kd ?_)
 refine Kgr ?_
 refine lxv (.bool true) F (Je rfl) fun a F=>?_
 refine Jc ?_
 refine Kgq ?_
 refine wp_ret ?_
 repeat (first | refine Jt ?_ | refine Jo ?_)
 exact bodyPost_ret (Ua F hr (s:=2) rfl) F.defers ⟨rfl,HM⟩
abbrev Ui (f:FuncId) (r:Value) (c:Nat):Prop:=∀ (N gB n0:Nat) (v:Nat→Value) (R:List (Nat × TypeId × Array Value)) (w0 w:World),v c=.slice none 0 0→Mem n0 w0 w ((gB,57,bkc N v)::R)→Calls Tryz.prog f #[.pointer (some ⟨gB,0,none⟩)] w fun e w'=>e=.returned r∧Mem n0 w0 w' ((gB,57,bkc N v)::R)
theorem fillByte_none:Ui 42 (.tuple #[]) 1:=fun _ _ _ _ _ _ _ hv HM=>Jas (c:=1) HM (congrArg some hv) Tryz.func42 rfl Tryz.ntmps42 rfl (fun _ _ _ h=>Jde h) (fun _ _ _ h hc=>Jfd h hc) (fun _ _ h=>Jcs h)
theorem growByte_none:Ui 59 (.tuple #[]) 1:=fun _ _ _ _ _ _ _ hv HM=>Jar (c:=1) HM (congrArg some hv) Tryz.func59 rfl Tryz.ntmps59 rfl (fun _ _ _ h=>Jde h) (fun _ _ _ h hc=>Jfd h hc) (fun _ _ h=>Jcs h)
theorem lookByte_none:Ui 76 (.bool true) 1:=fun _ _ _ _ _ _ _ hv HM=>Jaq (c:=1) HM (congrArg some hv) Tryz.func76 rfl Tryz.ntmps76 rfl (fun _ _ _ h=>Jde h) (fun _ _ _ h hc=>Jfd h hc) (fun _ _ h=>Jcs h)
theorem fillInt_none:Ui 43 (.tuple #[]) 2:=fun _ _ _ _ _ _ _ hv HM=>Jas (c:=2) HM (congrArg some hv) Tryz.func43 rfl Tryz.ntmps43 rfl (fun _ _ _ h=>Jdd h) (fun _ _ _ h hc=>Jgi h hc) (fun _ _ h=>Jez h)
theorem growInt_none:Ui 60 (.tuple #[]) 2:=fun _ _ _ _ _ _ _ hv HM=>Jar (c:=2) HM (congrArg some hv) Tryz.func60 rfl Tryz.ntmps60 rfl (fun _ _ _ h=>Jdd h) (fun _ _ _ h hc=>Jgi h hc) (fun _ _ h=>Jez h)
theorem lookInt_none:Ui 77 (.bool true) 2:=fun _ _ _ _ _ _ _ hv HM=>Jaq (c:=2) HM (congrArg some hv) Tryz.func77 rfl Tryz.ntmps77 rfl (fun _ _ _ h=>Jdd h) (fun _ _ _ h hc=>Jgi h hc) (fun _ _ h=>Jez h)
theorem fillText_none:Ui 44 (.tuple #[]) 3:=fun _ _ _ _ _ _ _ hv HM=>Jas (c:=3) HM (congrArg some hv) Tryz.func44 rfl Tryz.ntmps44 rfl (fun _ _ _ h=>Jdc h) (fun _ _ _ h hc=>Jfb h hc) (fun _ _ h=>Jcq h)
theorem growText_none:Ui 61 (.tuple #[]) 3:=fun _ _ _ _ _ _ _ hv HM=>Jar (c:=3) HM (congrArg some hv) Tryz.func61 rfl Tryz.ntmps61 rfl (fun _ _ _ h=>Jdc h) (fun _ _ _ h hc=>Jfb h hc) (fun _ _ h=>Jcq h)
theorem lookText_none:Ui 78 (.bool true) 3:=fun _ _ _ _ _ _ _ hv HM=>Jaq (c:=3) HM (congrArg some hv) Tryz.func78 rfl Tryz.ntmps78 rfl (fun _ _ _ h=>Jdc h) (fun _ _ _ h hc=>Jfb h hc) (fun _ _ h=>Jcq h)
theorem fillHash_none:Ui 46 (.tuple #[]) 5:=fun _ _ _ _ _ _ _ hv HM=>Jas (c:=5) HM (congrArg some hv) Tryz.func46 rfl Tryz.ntmps46 rfl (fun _ _ _ h=>Jdb h) (fun _ _ _ h hc=>Jfc h hc) (fun _ _ h=>Jcr h)
theorem growHash_none:Ui 63 (.tuple #[]) 5:=fun _ _ _ _ _ _ _ hv HM=>Jar (c:=5) HM (congrArg some hv) Tryz.func63 rfl Tryz.ntmps63 rfl (fun _ _ _ h=>Jdb h) (fun _ _ _ h hc=>Jfc h hc) (fun _ _ h=>Jcr h)
theorem lookHash_none:Ui 80 (.bool true) 5:=fun _ _ _ _ _ _ _ hv HM=>Jaq (c:=5) HM (congrArg some hv) Tryz.func80 rfl Tryz.ntmps80 rfl (fun _ _ _ h=>Jdb h) (fun _ _ _ h hc=>Jfc h hc) (fun _ _ h=>Jcr h)
theorem fillReason_none:Ui 47 (.tuple #[]) 6:=fun _ _ _ _ _ _ _ hv HM=>Jas (c:=6) HM (congrArg some hv) Tryz.func47 rfl Tryz.ntmps47 rfl (fun _ _ _ h=>Jda h) (fun _ _ _ h hc=>Jbc h hc) (fun _ _ h=>Jad h)
theorem growReason_none:Ui 64 (.tuple #[]) 6:=fun _ _ _ _ _ _ _ hv HM=>Jar (c:=6) HM (congrArg some hv) Tryz.func64 rfl Tryz.ntmps64 rfl (fun _ _ _ h=>Jda h) (fun _ _ _ h hc=>Jbc h hc) (fun _ _ h=>Jad h)
theorem lookReason_none:Ui 81 (.bool true) 6:=fun _ _ _ _ _ _ _ hv HM=>Jaq (c:=6) HM (congrArg some hv) Tryz.func81 rfl Tryz.ntmps81 rfl (fun _ _ _ h=>Jda h) (fun _ _ _ h hc=>Jbc h hc) (fun _ _ h=>Jad h)
theorem fillKey_none:Ui 48 (.tuple #[]) 7:=fun _ _ _ _ _ _ _ hv HM=>Jas (c:=7) HM (congrArg some hv) Tryz.func48 rfl Tryz.ntmps48 rfl (fun _ _ _ h=>Jcz h) (fun _ _ _ h hc=>Jgh h hc) (fun _ _ h=>Jey h)
theorem growKey_none:Ui 65 (.tuple #[]) 7:=fun _ _ _ _ _ _ _ hv HM=>Jar (c:=7) HM (congrArg some hv) Tryz.func65 rfl Tryz.ntmps65 rfl (fun _ _ _ h=>Jcz h) (fun _ _ _ h hc=>Jgh h hc) (fun _ _ h=>Jey h)
theorem lookKey_none:Ui 82 (.bool true) 7:=fun _ _ _ _ _ _ _ hv HM=>Jaq (c:=7) HM (congrArg some hv) Tryz.func82 rfl Tryz.ntmps82 rfl (fun _ _ _ h=>Jcz h) (fun _ _ _ h hc=>Jgh h hc) (fun _ _ h=>Jey h)
theorem fillProof_none:Ui 49 (.tuple #[]) 8:=fun _ _ _ _ _ _ _ hv HM=>Jas (c:=8) HM (congrArg some hv) Tryz.func49 rfl Tryz.ntmps49 rfl (fun _ _ _ h=>Jcy h) (fun _ _ _ h hc=>Jcu h hc) (fun _ _ h=>Jay h)
theorem growProof_none:Ui 66 (.tuple #[]) 8:=fun _ _ _ _ _ _ _ hv HM=>Jar (c:=8) HM (congrArg some hv) Tryz.func66 rfl Tryz.ntmps66 rfl (fun _ _ _ h=>Jcy h) (fun _ _ _ h hc=>Jcu h hc) (fun _ _ h=>Jay h)
theorem lookProof_none:Ui 83 (.bool true) 8:=fun _ _ _ _ _ _ _ hv HM=>Jaq (c:=8) HM (congrArg some hv) Tryz.func83 rfl Tryz.ntmps83 rfl (fun _ _ _ h=>Jcy h) (fun _ _ _ h hc=>Jcu h hc) (fun _ _ h=>Jay h)
theorem fillDealing_none:Ui 50 (.tuple #[]) 9:=fun _ _ _ _ _ _ _ hv HM=>Jas (c:=9) HM (congrArg some hv) Tryz.func50 rfl Tryz.ntmps50 rfl (fun _ _ _ h=>Jcx h) (fun _ _ _ h hc=>Jaf h hc) (fun _ _ h=>Xm h)
theorem growDealing_none:Ui 67 (.tuple #[]) 9:=fun _ _ _ _ _ _ _ hv HM=>Jar (c:=9) HM (congrArg some hv) Tryz.func67 rfl Tryz.ntmps67 rfl (fun _ _ _ h=>Jcx h) (fun _ _ _ h hc=>Jaf h hc) (fun _ _ h=>Xm h)
theorem lookDealing_none:Ui 84 (.bool true) 9:=fun _ _ _ _ _ _ _ hv HM=>Jaq (c:=9) HM (congrArg some hv) Tryz.func84 rfl Tryz.ntmps84 rfl (fun _ _ _ h=>Jcx h) (fun _ _ _ h hc=>Jaf h hc) (fun _ _ h=>Xm h)
theorem fillOpened_none:Ui 51 (.tuple #[]) 10:=fun _ _ _ _ _ _ _ hv HM=>Jas (c:=10) HM (congrArg some hv) Tryz.func51 rfl Tryz.ntmps51 rfl (fun _ _ _ h=>Jbm h) (fun _ _ _ h hc=>Jbd h hc) (fun _ _ h=>Jae h)
theorem growOpened_none:Ui 68 (.tuple #[]) 10:=fun _ _ _ _ _ _ _ hv HM=>Jar (c:=10) HM (congrArg some hv) Tryz.func68 rfl Tryz.ntmps68 rfl (fun _ _ _ h=>Jbm h) (fun _ _ _ h hc=>Jbd h hc) (fun _ _ h=>Jae h)
theorem lookOpened_none:Ui 85 (.bool true) 10:=fun _ _ _ _ _ _ _ hv HM=>Jaq (c:=10) HM (congrArg some hv) Tryz.func85 rfl Tryz.ntmps85 rfl (fun _ _ _ h=>Jbm h) (fun _ _ _ h hc=>Jbd h hc) (fun _ _ h=>Jae h)
theorem fillShown_none:Ui 52 (.tuple #[]) 11:=fun _ _ _ _ _ _ _ hv HM=>Jas (c:=11) HM (congrArg some hv) Tryz.func52 rfl Tryz.ntmps52 rfl (fun _ _ _ h=>Jbl h) (fun _ _ _ h hc=>Jct h hc) (fun _ _ h=>Jax h)
theorem growShown_none:Ui 69 (.tuple #[]) 11:=fun _ _ _ _ _ _ _ hv HM=>Jar (c:=11) HM (congrArg some hv) Tryz.func69 rfl Tryz.ntmps69 rfl (fun _ _ _ h=>Jbl h) (fun _ _ _ h hc=>Jct h hc) (fun _ _ h=>Jax h)
theorem lookShown_none:Ui 86 (.bool true) 11:=fun _ _ _ _ _ _ _ hv HM=>Jaq (c:=11) HM (congrArg some hv) Tryz.func86 rfl Tryz.ntmps86 rfl (fun _ _ _ h=>Jbl h) (fun _ _ _ h hc=>Jct h hc) (fun _ _ h=>Jax h)
theorem fillVote_none:Ui 53 (.tuple #[]) 12:=fun _ _ _ _ _ _ _ hv HM=>Jas (c:=12) HM (congrArg some hv) Tryz.func53 rfl Tryz.ntmps53 rfl (fun _ _ _ h=>Jbk h) (fun _ _ _ h hc=>Jfa h hc) (fun _ _ h=>Jcp h)
theorem growVote_none:Ui 70 (.tuple #[]) 12:=fun _ _ _ _ _ _ _ hv HM=>Jar (c:=12) HM (congrArg some hv) Tryz.func70 rfl Tryz.ntmps70 rfl (fun _ _ _ h=>Jbk h) (fun _ _ _ h hc=>Jfa h hc) (fun _ _ h=>Jcp h)
theorem lookVote_none:Ui 87 (.bool true) 12:=fun _ _ _ _ _ _ _ hv HM=>Jaq (c:=12) HM (congrArg some hv) Tryz.func87 rfl Tryz.ntmps87 rfl (fun _ _ _ h=>Jbk h) (fun _ _ _ h hc=>Jfa h hc) (fun _ _ h=>Jcp h)
theorem fillBlock_none:Ui 54 (.tuple #[]) 13:=fun _ _ _ _ _ _ _ hv HM=>Jas (c:=13) HM (congrArg some hv) Tryz.func54 rfl Tryz.ntmps54 rfl (fun _ _ _ h=>Jbj h) (fun _ _ _ h hc=>Jcw h hc) (fun _ _ h=>Jba h)
theorem growBlock_none:Ui 71 (.tuple #[]) 13:=fun _ _ _ _ _ _ _ hv HM=>Jar (c:=13) HM (congrArg some hv) Tryz.func71 rfl Tryz.ntmps71 rfl (fun _ _ _ h=>Jbj h) (fun _ _ _ h hc=>Jcw h hc) (fun _ _ h=>Jba h)
theorem lookBlock_none:Ui 88 (.bool true) 13:=fun _ _ _ _ _ _ _ hv HM=>Jaq (c:=13) HM (congrArg some hv) Tryz.func88 rfl Tryz.ntmps88 rfl (fun _ _ _ h=>Jbj h) (fun _ _ _ h hc=>Jcw h hc) (fun _ _ h=>Jba h)
theorem fillEvidence_none:Ui 55 (.tuple #[]) 14:=fun _ _ _ _ _ _ _ hv HM=>Jas (c:=14) HM (congrArg some hv) Tryz.func55 rfl Tryz.ntmps55 rfl (fun _ _ _ h=>Jbi h) (fun _ _ _ h hc=>Xn h hc) (fun _ _ h=>Wy h)
theorem growEvidence_none:Ui 72 (.tuple #[]) 14:=fun _ _ _ _ _ _ _ hv HM=>Jar (c:=14) HM (congrArg some hv) Tryz.func72 rfl Tryz.ntmps72 rfl (fun _ _ _ h=>Jbi h) (fun _ _ _ h hc=>Xn h hc) (fun _ _ h=>Wy h)
theorem lookEvidence_none:Ui 89 (.bool true) 14:=fun _ _ _ _ _ _ _ hv HM=>Jaq (c:=14) HM (congrArg some hv) Tryz.func89 rfl Tryz.ntmps89 rfl (fun _ _ _ h=>Jbi h) (fun _ _ _ h hc=>Xn h hc) (fun _ _ h=>Wy h)
theorem fillMsg_none:Ui 56 (.tuple #[]) 15:=fun _ _ _ _ _ _ _ hv HM=>Jas (c:=15) HM (congrArg some hv) Tryz.func56 rfl Tryz.ntmps56 rfl (fun _ _ _ h=>Jbh h) (fun _ _ _ h hc=>Jgg h hc) (fun _ _ h=>Jex h)
theorem growMsg_none:Ui 73 (.tuple #[]) 15:=fun _ _ _ _ _ _ _ hv HM=>Jar (c:=15) HM (congrArg some hv) Tryz.func73 rfl Tryz.ntmps73 rfl (fun _ _ _ h=>Jbh h) (fun _ _ _ h hc=>Jgg h hc) (fun _ _ h=>Jex h)
theorem lookMsg_none:Ui 90 (.bool true) 15:=fun _ _ _ _ _ _ _ hv HM=>Jaq (c:=15) HM (congrArg some hv) Tryz.func90 rfl Tryz.ntmps90 rfl (fun _ _ _ h=>Jbh h) (fun _ _ _ h hc=>Jgg h hc) (fun _ _ h=>Jex h)
theorem fillFrame_none:Ui 57 (.tuple #[]) 16:=fun _ _ _ _ _ _ _ hv HM=>Jas (c:=16) HM (congrArg some hv) Tryz.func57 rfl Tryz.ntmps57 rfl (fun _ _ _ h=>Jbg h) (fun _ _ _ h hc=>Jcv h hc) (fun _ _ h=>Jaz h)
theorem growFrame_none:Ui 74 (.tuple #[]) 16:=fun _ _ _ _ _ _ _ hv HM=>Jar (c:=16) HM (congrArg some hv) Tryz.func74 rfl Tryz.ntmps74 rfl (fun _ _ _ h=>Jbg h) (fun _ _ _ h hc=>Jcv h hc) (fun _ _ h=>Jaz h)
theorem lookFrame_none:Ui 91 (.bool true) 16:=fun _ _ _ _ _ _ _ hv HM=>Jaq (c:=16) HM (congrArg some hv) Tryz.func91 rfl Tryz.ntmps91 rfl (fun _ _ _ h=>Jbg h) (fun _ _ _ h hc=>Jcv h hc) (fun _ _ h=>Jaz h)
theorem fillRecord_none:Ui 58 (.tuple #[]) 17:=fun _ _ _ _ _ _ _ hv HM=>Jas (c:=17) HM (congrArg some hv) Tryz.func58 rfl Tryz.ntmps58 rfl (fun _ _ _ h=>Jbf h) (fun _ _ _ h hc=>Jbb h hc) (fun _ _ h=>Jac h)
theorem growRecord_none:Ui 75 (.tuple #[]) 17:=fun _ _ _ _ _ _ _ hv HM=>Jar (c:=17) HM (congrArg some hv) Tryz.func75 rfl Tryz.ntmps75 rfl (fun _ _ _ h=>Jbf h) (fun _ _ _ h hc=>Jbb h hc) (fun _ _ h=>Jac h)
theorem lookRecord_none:Ui 92 (.bool true) 17:=fun _ _ _ _ _ _ _ hv HM=>Jaq (c:=17) HM (congrArg some hv) Tryz.func92 rfl Tryz.ntmps92 rfl (fun _ _ _ h=>Jbf h) (fun _ _ _ h hc=>Jbb h hc) (fun _ _ h=>Jac h)
end Go.Proofs.YtmmgmljkmmgjdaaGreatDoor
