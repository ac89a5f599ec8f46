import Derived.Deep.Cut
import Derived.Test.YtcbnmdkmfdjpiaaPDu14
import Derived.Test.YtcbnmdkmfdjpiaaPShort
namespace Go.Proofs.Ytcbnmdkmfdjpiaa
set_option maxRecDepth 100000
open Go.RowKit
set_option linter.unusedSimpArgs false
set_option linter.unusedVariables false
attribute [local go_sem ↓] Go.wp_at_zero Go.wp_at_succ

theorem LieAt.of_rn {n0:Nat} {w:World} {g o n cap:Nat} {xs:List Nat} (r:RN n0 w (some ⟨g,o,none⟩) n cap xs):LieAt w g o xs:=fun i x hx=>by
 obtain ⟨hi,rfl⟩:=List.getElem?_eq_some_iff.1 hx
 obtain ⟨g',o',e,_,_,hc⟩:=r.get (show i<n by rw [← r.1];exact hi)
 cases e
 exact hc w (Below.refl _ _)
theorem run_app0 (a:Option Addr) (c:Nat) (ty:TypeId) (w:World):(Builtin.append_ #[27,27] ty #[.slice none 0 0,.slice a 0 c]).run Try.prog w=.ok (.slice none 0 0) w:=by
 obtain ⟨i0,hi,hz0,hz1,hz2⟩:=info_parts Try.infoNum
 cases a with
 | none=>simp [Builtin.append_,run_underlying Try.underlying27,sizeOf,typeInfo,hi,Builtin.lenOf,Builtin.firstCells]
 | some a=>
  have hl:(loadCells a 0).run Try.prog w=.ok #[] w:=run_loadCells_list (P:=Try.prog) w a [] (by simp)
  simp [Builtin.append_,run_underlying Try.underlying27,sizeOf,typeInfo,hi,Builtin.lenOf,Builtin.firstCells,hl]
theorem copyR {n0:Nat} {w0 w:World} {A R:List (Nat × TypeId × Array Value)} {dst:Option Tmp} {ρ:Operand→Value} {xs:List Nat} {a:Option Addr} {n c:Nat} {x:Operand} {ty:TypeId} {pos:String} {after:Array Edge} {gd:Option (Nat × Bool)} (H:Mem n0 w0 w (A++R)) (r:RN w.heap.size w a n c xs) (hs:ρ (.const (.slice none 0 0))=.slice none 0 0) (hx:ρ x=.slice a n c) (hb:n≤1000) :
  ∃ v' w',(execOp ρ ⟨dst,.call { callee:=.builtin .append,args:=#[.const (.slice none 0 0),x],argTypes:=#[27,27] },ty,pos,after,gd⟩).run Try.prog w=.ok (.value v') w'∧∃ R',Mem n0 w0 w' (A++R')∧LR R' v' xs:=by
 by_cases h0:xs=[]
 ·subst h0
  obtain rfl:n=0:=r.1.symm
  have hr:=run_app0 a c ty w
  refine ⟨_,w,?_,R,H,LR.nil R⟩
  unfold execOp
  simp only [resolve,invoke,builtin,Sem.run_bind,Sem.run_pure,Result.andThen_ok,List.map_toArray,List.map_cons,List.map_nil,hs,hx,hr]
 ·obtain ⟨g,o,rfl,_⟩:=r.get (i:=0) (by rw [← r.1];exact List.length_pos_iff.2 h0)
  obtain ⟨v',w',hrun,R',HM,l,_⟩:=Jgg (dst:=dst) (ty:=ty) (pos:=pos) (after:=after) (gd:=gd) H (LR.nil R) hs hx r.1 (LieAt.of_rn r) (by simpa using h0) (by simp;omega)
  exact ⟨v',w',hrun,R',HM,by simpa using l⟩
abbrev spv (a b c:Nat):Value:=.agg #[.int .u8 (a:Nat),.int .u8 (b:Nat),.int .u64 (c:Nat)]
abbrev spc (a b c:Nat):Array Value:=#[.int .u8 (a:Nat),.int .u8 (b:Nat),.int .u64 (c:Nat)]
section
variable {x y:Operand} {dst:Option Tmp} {ty:TypeId} {pos:String} {after:Array Edge} {guard:Option (Nat × Bool)} {ρ:Operand→Value} {w:World} {g o:Nat}
theorem Jdk {a b c:Nat} (hx:ρ x=spv a b c):(execOp ρ ⟨dst,.box 29 x,ty,pos,after,guard⟩).run Try.prog w=.ok (.value (.pointer (some ⟨w.heap.size,0,none⟩))) (w.alloc (.cells (spc a b c) 29)):=by simp [execOp,hx,go_sem]
theorem o_fieldSp0 (hx:ρ x=.pointer (some ⟨g,0,none⟩)):(execOp ρ ⟨dst,.fieldAddr 29 x 0,ty,pos,after,guard⟩).run Try.prog w=.ok (.value (.pointer (some ⟨g,0,none⟩))) w:=by simp [execOp,hx,go_sem]
theorem o_fieldSp1 (hx:ρ x=.pointer (some ⟨g,0,none⟩)):(execOp ρ ⟨dst,.fieldAddr 29 x 1,ty,pos,after,guard⟩).run Try.prog w=.ok (.value (.pointer (some ⟨g,1,none⟩))) w:=by simp [execOp,hx,go_sem]
theorem o_fieldSp2 (hx:ρ x=.pointer (some ⟨g,0,none⟩)):(execOp ρ ⟨dst,.fieldAddr 29 x 2,ty,pos,after,guard⟩).run Try.prog w=.ok (.value (.pointer (some ⟨g,2,none⟩))) w:=by simp [execOp,hx,go_sem]
theorem o_ldSp0 {a b c:Nat} (hx:ρ x=.pointer (some ⟨g,0,none⟩)) (h:At w g 29 (spc a b c)):(execOp ρ ⟨dst,.load 5 x,ty,pos,after,guard⟩).run Try.prog w=.ok (.value (.int .u8 (a:Nat))) w:=by
 have c0:w.cell? ⟨g,0,none⟩=some (.int .u8 (a:Nat)):=h.cell 0
 simp [execOp,hx,go_sem,c0]
theorem o_ldSp1 {a b c:Nat} (hx:ρ x=.pointer (some ⟨g,1,none⟩)) (h:At w g 29 (spc a b c)):(execOp ρ ⟨dst,.load 5 x,ty,pos,after,guard⟩).run Try.prog w=.ok (.value (.int .u8 (b:Nat))) w:=by
 have c0:w.cell? ⟨g,1,none⟩=some (.int .u8 (b:Nat)):=h.cell 1
 simp [execOp,hx,go_sem,c0]
theorem o_ldSp2 {a b c:Nat} (hx:ρ x=.pointer (some ⟨g,2,none⟩)) (h:At w g 29 (spc a b c)):(execOp ρ ⟨dst,.load 22 x,ty,pos,after,guard⟩).run Try.prog w=.ok (.value (.int .u64 (c:Nat))) w:=by
 have c0:w.cell? ⟨g,2,none⟩=some (.int .u64 (c:Nat)):=h.cell 2
 simp [execOp,hx,go_sem,c0]
theorem o_sub8 {n:Nat} (hn:n≤8) (hx:ρ x=.int .i64 8) (hy:ρ y=.int .i64 (n:Nat)):(execOp ρ ⟨dst,.binOp .sub 3 x y 3,ty,pos,after,guard⟩).run Try.prog w=.ok (.value (.int .i64 ((8-n:Nat):Int))) w:=by
 have h:IntKind.i64.wrap ((8:Int)-(n:Int))=((8-n:Nat):Int):=by rw [IntKind.wrap_i64];omega
 simp only [execOp,hx,hy];simp [go_sem,h]
theorem o_sub1W {n:Nat} (h1:1≤n) (hn:n<18446744073709551616) (hx:ρ x=.int .u64 (n:Nat)) (hy:ρ y=.int .u64 1):(execOp ρ ⟨dst,.binOp .sub 22 x y 22,ty,pos,after,guard⟩).run Try.prog w=.ok (.value (.int .u64 ((n-1:Nat):Int))) w:=by
 have h:IntKind.u64.wrap ((n:Int)-1)=((n-1:Nat):Int):=by rw [IntKind.wrap_u64];omega
 simp only [execOp,hx,hy];simp [go_sem,h]
theorem o_remW {n m:Nat} (hn:n<18446744073709551616) (h0:0<m) (hx:ρ x=.int .u64 (n:Nat)) (hy:ρ y=.int .u64 (m:Nat)):(execOp ρ ⟨dst,.binOp .rem 22 x y 22,ty,pos,after,guard⟩).run Try.prog w=.ok (.value (.int .u64 ((n%m:Nat):Int))) w:=by
 have h1:Int.tmod (n:Int) (m:Int)=((n%m:Nat):Int):=by rw [Int.tmod_eq_emod_of_nonneg (by omega),Int.natCast_emod]
 have hle:=Nat.mod_le n m
 have h2:IntKind.u64.wrap ((n%m:Nat):Int)=((n%m:Nat):Int):=by rw [IntKind.wrap_u64];omega
 have h3:¬ m=0:=by omega
 simp only [execOp,hx,hy]
 simp only [go_sem]
 simp [go_sem,h1,h2,h3]
 try exact h2
theorem o_addW1 {n:Nat} (hn:1+n<18446744073709551616) (hx:ρ x=.int .u64 1) (hy:ρ y=.int .u64 (n:Nat)):(execOp ρ ⟨dst,.binOp .add 22 x y 22,ty,pos,after,guard⟩).run Try.prog w=.ok (.value (.int .u64 ((1+n:Nat):Int))) w:=by
 have h:IntKind.u64.wrap ((1:Int)+(n:Int))=((1+n:Nat):Int):=by rw [IntKind.wrap_u64];omega
 simp only [execOp,hx,hy];simp [go_sem,h]
theorem o_eqlIb {m n:Nat} {b:Bool} (hb:decide (m=n)=b) (hx:ρ x=.int .i64 (m:Nat)) (hy:ρ y=.int .i64 (n:Nat)):(execOp ρ ⟨dst,.binOp .eql 3 x y 3,ty,pos,after,guard⟩).run Try.prog w=.ok (.value (.bool b)) w:=by
 subst hb;simp only [execOp,hx,hy]
 by_cases h:m=n
 ·subst h;simp [go_sem]
 ·have h2:¬ (m:Int)=(n:Int):=by omega
  simp [go_sem,h,h2]
theorem o_buildWt {n:Nat} (h:n<18446744073709551616) (hc:ρ x=.int .u64 (n:Nat)):(execOp ρ ⟨dst,.build 24 #[(0,x)],ty,pos,after,guard⟩).run Try.prog w=.ok (.value (num n)) w:=by
 have h0:wd n 0=n:=by unfold wd;rw [Nat.pow_zero,Nat.div_one,Nat.mod_eq_of_lt h]
 have hk:∀ k,wd n (k+1)=0:=fun k=>by unfold wd;rw [Nat.div_eq_of_lt (Nat.lt_of_lt_of_le h (by rw [Nat.pow_succ];exact Nat.le_mul_of_pos_left _ (Nat.pow_pos (by decide))))]
 have h1:=hk 0;have h2:=hk 1;have h3:=hk 2
 have e:(execOp ρ ⟨dst,.build 24 #[(0,x)],ty,pos,after,guard⟩).run Try.prog w=.ok (.value (.agg #[.int .u64 (n:Nat),.int .u64 0,.int .u64 0,.int .u64 0])) w:=by simp [execOp,hc,go_sem]
 rw [e]
 simp [h0,h1,h2,h3]
end
theorem LR.own {n0:Nat} {w0 w:World} {A R:List (Nat × TypeId × Array Value)} {v:Value} {xs:List Nat} (h:LR R v xs) (H:Mem n0 w0 w (A++R)) (hx:xs≠[]):∃ g cap cur,v=.slice (some ⟨g,0,none⟩) xs.length cap∧Mem n0 w0 w (A++[(g,24,cur)])∧xs.length≤cap∧cap≤9223372036854775807∧Pf cur xs:=by
 rcases h with ⟨_,h0⟩ | ⟨g,cap,cur,rfl,hm,h1,h2,h3,h4⟩
 ·exact absurd h0 hx
 ·refine ⟨g,cap,cur,rfl,H.subl (List.Sublist.append (List.Sublist.refl _) (List.singleton_sublist.2 hm)),h1,h2,by rw [h3];exact Nat.mul_le_mul_right _ h1,fun i hi k hk=>?_⟩
  have hf:=Jaj xs i hi k hk
  rw [← h4,List.getElem?_take] at hf
  split at hf
  ·simpa using hf
  ·cases hf
theorem spoil_iff {Q N n tt V:Nat} (hq:Pr.Pri Q) (hN:N<Q) (hn:n≤N) (ls vs:List Nat) (hll:ls.length=n) (hls:∀ c∈ls,c<Q) (hvl:vs.length=N) (hvg:∀ i,i<N→vs[i]? = some (Wu Q ls i)) (ht:tt<N) (hV:V<Q) (hne:V≠Wu Q ls tt) :
  decide (N=n)=true ↔ ∀ i,n≤i→i<N→(comb Q N (fun x=>(vs.set tt V).getD x 0) N)[i]? = some 0:=by
 have hq1:1<Q:=hq.1
 rw [decide_eq_true_iff]
 constructor
 ·intro e i h1 h2;omega
 ·intro hz
  refine Classical.byContradiction fun hnn=>hne ?_
  have hz2:∀ j,n≤j→j<(comb Q N (fun x=>(vs.set tt V).getD x 0) N).length→(comb Q N (fun x=>(vs.set tt V).getD x 0) N)[j]? = some 0:=fun j h1 h2=>hz j h1 (by rw [Vj] at h2;exact h2)
  have hpl:(pls N).length=N:=by simp [pls]
  have e:(comb Q N (fun x=>(vs.set tt V).getD x 0) N).take n=ls:=by
   refine Jgc (xs:=(pls N).eraseIdx tt) (by rw [List.length_take,Vj,hll];omega) (by rw [List.length_take,Vj,List.length_eraseIdx_of_lt (by omega)];omega) (fun c hc=>Jbq hq1 N _ N c (List.mem_of_mem_take hc)) hls ((Jdg hq hN).sublist (List.eraseIdx_sublist _ _)) fun x hx=>?_
   obtain ⟨j,hjt,hj⟩:=List.mem_eraseIdx_iff_getElem?.1 hx
   have hjN:j<N:=by rw [← hpl];exact (List.getElem?_eq_some_iff.1 hj).1
   have hx2:x=((j+1:Nat):Int):=by
    unfold pls at hj
    rw [List.getElem?_map,List.getElem?_range hjN] at hj
    exact (Option.some.inj hj).symm
   rw [hx2,Jal hz2]
   refine (Uw hq hN _ j hjN).trans ?_
   have e2:(vs.set tt V).getD j 0=Wu Q ls j:=Jcc (by rw [List.getElem?_set_ne (Ne.symm hjt)];exact hvg j hjN)
   show Cg Q (((vs.set tt V).getD j 0:Nat):Int) _
   rw [e2]
   exact Jce hq1 ls j
  have h3:=Uw hq hN (fun x=>(vs.set tt V).getD x 0) tt ht
  rw [← Jal hz2,e] at h3
  have e3:(vs.set tt V).getD tt 0=V:=Jcc (by rw [List.getElem?_set_self (by omega)])
  have h4:Cg Q (evZ (zs ls) ((tt+1:Nat):Int)) ((V:Nat):Int):=by rw [← e3];exact h3
  exact Cg.eq hV (Jda hq1 ls tt) (h4.symm.trans (Jce hq1 ls tt).symm)
theorem add_ne {Q a b:Nat} (ha:a<Q) (h1:1≤b) (hb:b<Q):(a+b)%Q≠a:=by
 by_cases h:a+b<Q
 ·rw [Nat.mod_eq_of_lt h];omega
 ·rw [Nat.mod_eq_sub_mod (by omega),Nat.mod_eq_of_lt (by omega)];omega
set_option maxRecDepth 100000 in
set_option maxHeartbeats 800000 in
theorem dpas_1 (P Q G H n capl:Nat) (pl:Option Addr) (ls:List Nat) (mo ta by0:Nat) (w0:World) (hP:P<2^256) (hQ:Q<2^256) (hG:G<2^256) (hH:H<2^256) (r:RN w0.heap.size w0 pl n capl ls) (h:7<n):Calls Try.prog 3 #[grp P Q G H,.slice pl n capl,spv mo ta by0] w0 fun e w'=>e=.returned (.bool true)∧Below w0.heap.size w0 w':=by
 refine Kc (args:=[grp P Q G H,.slice pl n capl,spv mo ta by0]) Try.func3 rfl Try.ntmps3 (by rfl) fun a F HM=>?_
 refine Kgr ?_
 refine Jn F HM (Ja rfl _) rfl (by rfl) (Kn (F.ev rfl)) fun a w gg F HM=>?_
 refine Jn F HM (Ja rfl _) rfl (by rfl) (Jdk (F.ev rfl)) fun a w gz F HM=>?_
 refine lxv (.bool false) F (Jg rfl) fun a F=>?_
 refine Jf ?_
 refine Kgr ?_
 refine Jr F (Ja rfl _) rfl (by rfl) (Ji Try.func6 (by kernel_rfl) (by rfl) .nil _) (Vk _) fun a w z F=>?_
 replace HM:=HM.on z
 clear z
 refine lxv (.bool false) F (Xv (b:=true) (r:=false) (F.ev rfl) rfl) fun a F=>?_
 refine lxv (.bool false) F (Jc (F.ev rfl)) fun a F=>?_
 refine lxw 19 false (.slice pl n capl) F (Jc (F.ev rfl)) fun a F=>?_
 refine lxw 19 false (.int .i64 (n:Nat)) F (Ur (F.ev rfl)) fun a F=>?_
 refine lxw 19 false (.bool true) F (Uk (m:=(n:Nat)) (decide_eq_true (by omega)) (F.ev rfl) rfl) fun a F=>?_
 refine lxv (.bool true) F (Jt (b:=false) (r:=.bool true) (F.ev rfl) rfl (F.ev rfl) rfl) fun a F=>?_
 refine lxv (.bool true) F (Jc (F.ev rfl)) fun a F=>?_
 refine lxp 24 true F fun a F=>?_
 refine lxp 24 true F fun a F=>?_
 refine lxp 24 true F fun a F=>?_
 refine lxv (.bool true) F (Jt (b:=true) (r:=.bool true) (F.ev rfl) rfl (F.ev rfl) rfl) fun a F=>?_
 refine lxv (.bool true) F (Jc (F.ev rfl)) fun a F=>?_
 refine lxp 29 true F fun a F=>?_
 refine lxp 29 true F fun a F=>?_
 refine lxp 29 true F fun a F=>?_
 refine lxp 29 true F fun a F=>?_
 refine lxv (.bool true) F (Jt (b:=true) (r:=.bool true) (F.ev rfl) rfl (F.ev rfl) rfl) fun a F=>?_
 refine Jf ?_
 refine Kgq ?_
 refine wp_cond_true (F.ev rfl) ?_
 refine Kgr ?_
 refine Jr F (Ja rfl _) rfl (by rfl) (Ji Try.func6 (by kernel_rfl) (by rfl) .nil _) (Vk _) fun a w z F=>?_
 replace HM:=HM.on z
 clear z
 refine lxv (.bool true) F (Jg (F.ev rfl)) fun a F=>?_
 refine Jf ?_
 refine Kgq ?_
 refine wp_ret ?_
 repeat (first | refine Jv ?_ | refine Jp ?_)
 exact Kv F HM (Kt F rfl (s:=6) rfl)

set_option maxRecDepth 100000 in
set_option maxHeartbeats 800000 in
theorem dpas_2 (P Q G H n capl:Nat) (pl:Option Addr) (ls:List Nat) (mo ta by0:Nat) (w0:World) (hP:P<2^256) (hQ:Q<2^256) (hG:G<2^256) (hH:H<2^256) (r:RN w0.heap.size w0 pl n capl ls) (h:n=0):Calls Try.prog 3 #[grp P Q G H,.slice pl n capl,spv mo ta by0] w0 fun e w'=>e=.returned (.bool true)∧Below w0.heap.size w0 w':=by
 refine Kc (args:=[grp P Q G H,.slice pl n capl,spv mo ta by0]) Try.func3 rfl Try.ntmps3 (by rfl) fun a F HM=>?_
 refine Kgr ?_
 refine Jn F HM (Ja rfl _) rfl (by rfl) (Kn (F.ev rfl)) fun a w gg F HM=>?_
 refine Jn F HM (Ja rfl _) rfl (by rfl) (Jdk (F.ev rfl)) fun a w gz F HM=>?_
 refine lxv (.bool false) F (Jg rfl) fun a F=>?_
 refine Jf ?_
 refine Kgr ?_
 refine Jr F (Ja rfl _) rfl (by rfl) (Ji Try.func6 (by kernel_rfl) (by rfl) .nil _) (Vk _) fun a w z F=>?_
 replace HM:=HM.on z
 clear z
 refine lxv (.bool false) F (Xv (b:=true) (r:=false) (F.ev rfl) rfl) fun a F=>?_
 refine lxv (.bool false) F (Jc (F.ev rfl)) fun a F=>?_
 refine lxw 19 false (.slice pl n capl) F (Jc (F.ev rfl)) fun a F=>?_
 refine lxw 19 false (.int .i64 (n:Nat)) F (Ur (F.ev rfl)) fun a F=>?_
 refine lxw 19 false (.bool false) F (Uk (m:=(n:Nat)) (decide_eq_false (by omega)) (F.ev rfl) rfl) fun a F=>?_
 refine lxv (.bool false) F (Jt (b:=false) (r:=.bool false) (F.ev rfl) rfl (F.ev rfl) rfl) fun a F=>?_
 refine lxv (.bool false) F (Jc (F.ev rfl)) fun a F=>?_
 refine lxw 24 false (.slice pl n capl) F (Jc (F.ev rfl)) fun a F=>?_
 refine lxw 24 false (.int .i64 (n:Nat)) F (Ur (F.ev rfl)) fun a F=>?_
 refine lxw 24 false (.bool true) F (Ua (u:=.int .i64 (n:Nat)) (v:=.int .i64 0) (fun ρ hx hy=>by simp only [execOp,hx,hy];simp [go_sem];omega) (F.ev rfl) rfl) fun a F=>?_
 refine lxv (.bool true) F (Jt (b:=false) (r:=.bool true) (F.ev rfl) rfl (F.ev rfl) rfl) fun a F=>?_
 refine lxv (.bool true) F (Jc (F.ev rfl)) fun a F=>?_
 refine lxp 29 true F fun a F=>?_
 refine lxp 29 true F fun a F=>?_
 refine lxp 29 true F fun a F=>?_
 refine lxp 29 true F fun a F=>?_
 refine lxv (.bool true) F (Jt (b:=true) (r:=.bool true) (F.ev rfl) rfl (F.ev rfl) rfl) fun a F=>?_
 refine Jf ?_
 refine Kgq ?_
 refine wp_cond_true (F.ev rfl) ?_
 refine Kgr ?_
 refine Jr F (Ja rfl _) rfl (by rfl) (Ji Try.func6 (by kernel_rfl) (by rfl) .nil _) (Vk _) fun a w z F=>?_
 replace HM:=HM.on z
 clear z
 refine lxv (.bool true) F (Jg (F.ev rfl)) fun a F=>?_
 refine Jf ?_
 refine Kgq ?_
 refine wp_ret ?_
 repeat (first | refine Jv ?_ | refine Jp ?_)
 exact Kv F HM (Kt F rfl (s:=6) rfl)

set_option maxRecDepth 100000 in
set_option maxHeartbeats 800000 in
theorem dpas_3 (P Q G H n capl:Nat) (pl:Option Addr) (ls:List Nat) (mo ta by0:Nat) (w0:World) (hP:P<2^256) (hQ:Q<2^256) (hG:G<2^256) (hH:H<2^256) (r:RN w0.heap.size w0 pl n capl ls) (h7:n≤7) (h0:0<n) (hf:fineB P Q G H ls=false):Calls Try.prog 3 #[grp P Q G H,.slice pl n capl,spv mo ta by0] w0 fun e w'=>e=.returned (.bool true)∧Below w0.heap.size w0 w':=by
 refine Kc (args:=[grp P Q G H,.slice pl n capl,spv mo ta by0]) Try.func3 rfl Try.ntmps3 (by rfl) fun a F HM=>?_
 refine Kgr ?_
 refine Jn F HM (Ja rfl _) rfl (by rfl) (Kn (F.ev rfl)) fun a w gg F HM=>?_
 refine Jn F HM (Ja rfl _) rfl (by rfl) (Jdk (F.ev rfl)) fun a w gz F HM=>?_
 refine lxv (.bool false) F (Jg rfl) fun a F=>?_
 refine Jf ?_
 refine Kgr ?_
 refine Jr F (Ja rfl _) rfl (by rfl) (Ji Try.func6 (by kernel_rfl) (by rfl) .nil _) (Vk _) fun a w z F=>?_
 replace HM:=HM.on z
 clear z
 refine lxv (.bool false) F (Xv (b:=true) (r:=false) (F.ev rfl) rfl) fun a F=>?_
 refine lxv (.bool false) F (Jc (F.ev rfl)) fun a F=>?_
 refine lxw 19 false (.slice pl n capl) F (Jc (F.ev rfl)) fun a F=>?_
 refine lxw 19 false (.int .i64 (n:Nat)) F (Ur (F.ev rfl)) fun a F=>?_
 refine lxw 19 false (.bool false) F (Uk (m:=(n:Nat)) (decide_eq_false (by omega)) (F.ev rfl) rfl) fun a F=>?_
 refine lxv (.bool false) F (Jt (b:=false) (r:=.bool false) (F.ev rfl) rfl (F.ev rfl) rfl) fun a F=>?_
 refine lxv (.bool false) F (Jc (F.ev rfl)) fun a F=>?_
 refine lxw 24 false (.slice pl n capl) F (Jc (F.ev rfl)) fun a F=>?_
 refine lxw 24 false (.int .i64 (n:Nat)) F (Ur (F.ev rfl)) fun a F=>?_
 refine lxw 24 false (.bool false) F (Ua (u:=.int .i64 (n:Nat)) (v:=.int .i64 0) (fun ρ hx hy=>by simp only [execOp,hx,hy];simp [go_sem];omega) (F.ev rfl) rfl) fun a F=>?_
 refine lxv (.bool false) F (Jt (b:=false) (r:=.bool false) (F.ev rfl) rfl (F.ev rfl) rfl) fun a F=>?_
 refine lxv (.bool false) F (Jc (F.ev rfl)) fun a F=>?_
 refine lxw 29 false (grp P Q G H) F (Jy (F.ev rfl) (HM.get 1 rfl)) fun a F=>?_
 refine lxw 29 false (.slice pl n capl) F (Jc (F.ev rfl)) fun a F=>?_
 refine Jr F (F.want (t:=29) (c:=false) rfl rfl rfl (by rfl) rfl) rfl (by rfl) (Ji Try.func7 (by kernel_rfl) (by rfl) (.cons (F.ev rfl) (.cons (F.ev rfl) .nil)) _) (fine_is P Q G H n capl pl ls hP hQ hG hH _ (r.call HM.bel HM.bel.size) hf) fun a w z F=>?_
 replace HM:=HM.on z
 clear z
 refine lxw 29 false (.bool true) F (Xv (b:=false) (r:=true) (F.ev rfl) rfl) fun a F=>?_
 refine lxv (.bool true) F (Jt (b:=false) (r:=.bool true) (F.ev rfl) rfl (F.ev rfl) rfl) fun a F=>?_
 refine Jf ?_
 refine Kgq ?_
 refine wp_cond_true (F.ev rfl) ?_
 refine Kgr ?_
 refine Jr F (Ja rfl _) rfl (by rfl) (Ji Try.func6 (by kernel_rfl) (by rfl) .nil _) (Vk _) fun a w z F=>?_
 replace HM:=HM.on z
 clear z
 refine lxv (.bool true) F (Jg (F.ev rfl)) fun a F=>?_
 refine Jf ?_
 refine Kgq ?_
 refine wp_ret ?_
 repeat (first | refine Jv ?_ | refine Jp ?_)
 exact Kv F HM (Kt F rfl (s:=6) rfl)

set_option maxRecDepth 100000 in
set_option maxHeartbeats 800000 in
theorem dpas_4 (P Q G H n capl:Nat) (pl:Option Addr) (ls:List Nat) (mo ta by0:Nat) (w0:World) (hP:P<2^256) (hQ:Q<2^256) (hG:G<2^256) (hH:H<2^256) (r:RN w0.heap.size w0 pl n capl ls) (hmo:mo<256) (hta:ta<256) (hby:by0<18446744073709551616) (h7:n≤7) (h0:0<n) (hf:fineB P Q G H ls=true):Calls Try.prog 3 #[grp P Q G H,.slice pl n capl,spv mo ta by0] w0 fun e w'=>e=.returned (.bool true)∧Below w0.heap.size w0 w':=by
 have hn7:n≤7:=h7
 obtain ⟨gd,hQ7,hQs,hw0,hls⟩:=fine_gd hP hQ hG hH hf
 have hq1:1<Q:=gd.pri.1
 have hcap:n≤capl:=by have:=r.2.1;rw [r.1] at this;exact this
 refine Kc (args:=[grp P Q G H,.slice pl n capl,spv mo ta by0]) Try.func3 rfl Try.ntmps3 (by rfl) fun a F HM=>?_
 refine Kgr ?_
 refine Jn F HM (Ja rfl _) rfl (by rfl) (Kn (F.ev rfl)) fun a w gg F HM=>?_
 refine Jn F HM (Ja rfl _) rfl (by rfl) (Jdk (F.ev rfl)) fun a w gz F HM=>?_
 refine lxv (.bool false) F (Jg rfl) fun a F=>?_
 refine Jf ?_
 refine Kgr ?_
 refine Jr F (Ja rfl _) rfl (by rfl) (Ji Try.func6 (by kernel_rfl) (by rfl) .nil _) (Vk _) fun a w z F=>?_
 replace HM:=HM.on z
 clear z
 refine lxv (.bool false) F (Xv (b:=true) (r:=false) (F.ev rfl) rfl) fun a F=>?_
 refine lxv (.bool false) F (Jc (F.ev rfl)) fun a F=>?_
 refine lxw 19 false (.slice pl n capl) F (Jc (F.ev rfl)) fun a F=>?_
 refine lxw 19 false (.int .i64 (n:Nat)) F (Ur (F.ev rfl)) fun a F=>?_
 refine lxw 19 false (.bool false) F (Uk (m:=(n:Nat)) (decide_eq_false (by omega)) (F.ev rfl) rfl) fun a F=>?_
 refine lxv (.bool false) F (Jt (b:=false) (r:=.bool false) (F.ev rfl) rfl (F.ev rfl) rfl) fun a F=>?_
 refine lxv (.bool false) F (Jc (F.ev rfl)) fun a F=>?_
 refine lxw 24 false (.slice pl n capl) F (Jc (F.ev rfl)) fun a F=>?_
 refine lxw 24 false (.int .i64 (n:Nat)) F (Ur (F.ev rfl)) fun a F=>?_
 refine lxw 24 false (.bool false) F (Ua (u:=.int .i64 (n:Nat)) (v:=.int .i64 0) (fun ρ hx hy=>by simp only [execOp,hx,hy];simp [go_sem];omega) (F.ev rfl) rfl) fun a F=>?_
 refine lxv (.bool false) F (Jt (b:=false) (r:=.bool false) (F.ev rfl) rfl (F.ev rfl) rfl) fun a F=>?_
 refine lxv (.bool false) F (Jc (F.ev rfl)) fun a F=>?_
 refine lxw 29 false (grp P Q G H) F (Jy (F.ev rfl) (HM.get 1 rfl)) fun a F=>?_
 refine lxw 29 false (.slice pl n capl) F (Jc (F.ev rfl)) fun a F=>?_
 refine Jr F (F.want (t:=29) (c:=false) rfl rfl rfl (by rfl) rfl) rfl (by rfl) (Ji Try.func7 (by kernel_rfl) (by rfl) (.cons (F.ev rfl) (.cons (F.ev rfl) .nil)) _) (fine_is P Q G H n capl _ ls hP hQ hG hH _ (r.call HM.bel HM.bel.size) hf) fun a w z F=>?_
 replace HM:=HM.on z
 clear z
 refine lxw 29 false (.bool false) F (Xv (b:=true) (r:=false) (F.ev rfl) rfl) fun a F=>?_
 refine lxv (.bool false) F (Jt (b:=false) (r:=.bool false) (F.ev rfl) rfl (F.ev rfl) rfl) fun a F=>?_
 refine Jf ?_
 refine Kgq ?_
 refine wp_cond_false (F.ev rfl) ?_
 refine Kgr ?_
 refine lxv (.slice pl n capl) F (Jc (F.ev rfl)) fun a F=>?_
 refine lxv (.int .i64 (n:Nat)) F (Ur (F.ev rfl)) fun a F=>?_
 refine lxv (.pointer (some ⟨gz,0,none⟩)) F (o_fieldSp0 (F.ev rfl)) fun a F=>?_
 refine lxv (.int .u8 (mo:Nat)) F (o_ldSp0 (F.ev rfl) (HM.get 0 rfl)) fun a F=>?_
 refine lxv (.int .i64 (mo:Nat)) F (o_conv8 hmo (F.ev rfl)) fun a F=>?_
 refine lxv (.slice pl n capl) F (Jc (F.ev rfl)) fun a F=>?_
 refine lxv (.int .i64 (n:Nat)) F (Ur (F.ev rfl)) fun a F=>?_
 refine lxv (.int .i64 ((8-n:Nat):Int)) F (o_sub8 (by omega) rfl (F.ev rfl)) fun a F=>?_
 refine lxv (.int .i64 ((mo%(8-n):Nat):Int)) F (o_remI (by omega) (by omega) (by omega) (F.ev rfl) (F.ev rfl)) fun a F=>?_
 refine lxv (.int .i64 ((n+mo%(8-n):Nat):Int)) F (o_addI (m:=n) (by have:=Nat.mod_lt mo (show 0<8-n by omega);omega) (F.ev rfl) (F.ev rfl)) fun a F=>?_
 refine lxv (.int .i64 ((n+mo%(8-n):Nat):Int)) F (Jg (F.ev rfl)) fun a F=>?_
 refine Jf ?_
 have hnN:n≤n+mo%(8-n):=Nat.le_add_right _ _
 have hN7:n+mo%(8-n)≤7:=by have:=Nat.mod_lt mo (show 0<8-n by omega);omega
 generalize n+mo%(8-n)=N at *
 have hpol:Jew Q ls=true:=polB_iff.2 ⟨hq1,hls⟩
 refine Kgr ?_
 refine lxv (grp P Q G H) F (Jy (F.ev rfl) (HM.get 1 rfl)) fun a F=>?_
 refine lxv (.slice pl n capl) F (Jc (F.ev rfl)) fun a F=>?_
 refine lxv (.int .i64 (N:Nat)) F (Jc (F.ev rfl)) fun a F=>?_
 refine Xo F (Ja rfl _) rfl (by rfl) (Ji Try.func8 (by kernel_rfl) (by rfl) (.cons (F.ev rfl) (.cons (F.ev rfl) (.cons (F.ev rfl) .nil))) _) (values_any12 P Q G H n N capl _ ls _ hQ (by omega) hpol (r.call HM.bel HM.bel.size)) fun a w u hu F=>?_
 obtain ⟨z,hnr⟩:=hu
 obtain ⟨gl,cv,cur,rfl,hg,hat,hvc,hcv,hpv⟩:=hnr.row (by intro e;have:=congrArg List.length e;simp at this;omega)
 have hne:=Jdr HM hg
 have hge:=Nat.le_trans (Nat.le_trans HM.le HM.bel.size) hg
 replace HM:=(HM.on z).add hge (fun x hx=>hne x hx) hat
 clear hne hge hg z hat hnr
 have hvl:((List.range N).map (Wu Q ls)).length=N:=by simp
 have hvQ:∀ v∈(List.range N).map (Wu Q ls),v<Q:=fun v hv=>by obtain ⟨y,_,rfl⟩:=List.mem_map.1 hv;exact Jda hq1 ls y
 have hvg:∀ i,i<N→((List.range N).map (Wu Q ls))[i]? = some (Wu Q ls i):=fun i hi=>by rw [List.getElem?_map,List.getElem?_range hi];rfl
 rw [hvl] at F hvc
 have hz:∀ i,n≤i→i<N→(comb Q N (fun x=>((List.range N).map (Wu Q ls)).getD x 0) N)[i]? = some 0:=(pol_iff gd.pri (by omega) hnN _ ls hvl hvQ r.1 hls fun i hi=>by rw [Jcc (hvg i (by omega))];exact (Jce hq1 ls i).symm).2 rfl
 generalize (List.range N).map (Wu Q ls)=vs at *
 refine lxv (.slice (some ⟨gl,0,none⟩) N cv) F (Jg (F.ev rfl)) fun a F=>?_
 refine Jf ?_
 refine Kgr ?_
 refine lxv (.slice pl n capl) F (Jc (F.ev rfl)) fun a F=>?_
 refine lxv (.int .i64 (n:Nat)) F (Ur (F.ev rfl)) fun a F=>?_
 refine lxv (.int .i64 (n:Nat)) F (Jg (F.ev rfl)) fun a F=>?_
 refine Jf ?_
 refine Kgq ?_
 refine wp_loop (fun a w=>∃ (k:Nat),n≤k∧k≤N+1∧Fr a 117 [(9,.int .i64 (k:Nat)),(7,.int .i64 (N:Nat)),(8,.slice (some ⟨gl,0,none⟩) N cv),(1,.slice pl n capl),(3,.pointer (some ⟨gg,0,none⟩)),(5,.pointer (some ⟨gz,0,none⟩))] []∧Mem w0.heap.size w0 w [(gl,24,cur),(gz,29,spc mo ta by0),(gg,26,gcs P Q G H)]) (fun a _=>N+1-(intOf (a.tmps.getD 9 undef)).toNat) ⟨n,Nat.le_refl _,by omega,F.sub [9,7,8,1,3,5],HM⟩ ?_
 clear F HM
 rintro aS wS ⟨k,hk1,hk2,FS,HM⟩
 have F:=FS
 by_cases hlt:k≤N
 ·refine Kgr ?_
  refine lxv (.int .i64 (k:Nat)) F (Jc (F.ev rfl)) fun a F=>?_
  refine lxv (.int .i64 (N:Nat)) F (Jc (F.ev rfl)) fun a F=>?_
  refine lxv (.bool true) F (Ua (u:=.int .i64 (k:Nat)) (v:=.int .i64 (N:Nat)) (fun ρ hx hy=>by simp only [execOp,hx,hy];simp [go_sem];omega) (F.ev rfl) (F.ev rfl)) fun a F=>?_
  refine Jf ?_
  refine Kgq ?_
  refine wp_cond_true (F.ev rfl) ?_
  refine Kgr ?_
  refine lxv (grp P Q G H) F (Jy (F.ev rfl) (HM.get 2 rfl)) fun a F=>?_
  refine lxv (.slice (some ⟨gl,0,none⟩) N cv) F (Jc (F.ev rfl)) fun a F=>?_
  refine lxv (.int .i64 (k:Nat)) F (Jc (F.ev rfl)) fun a F=>?_
  refine Jr F (Ja rfl _) rfl (by rfl) (Ji Try.func9 (by kernel_rfl) (by rfl) (.cons (F.ev rfl) (.cons (F.ev rfl) (.cons (F.ev rfl) .nil))) _) (Jdh (b:=true) gd H N cv k _ vs (comb Q N (fun x=>vs.getD x 0) N) _ hQ7 hN7 (by omega) hlt (hpv.rsA (HM.get 0 rfl) hvl hvc hcv (fun x hx=>Nat.lt_trans (hvQ x hx) hQ)) (Vj _ _ _ _) (Jbq hq1 _ _ _) (fun x hx=>Uw gd.pri (by omega) _ x hx) ⟨fun _ i h1 h2=>hz i (by omega) h2,fun _=>rfl⟩) fun a w z F=>?_
  replace HM:=HM.on z
  clear z
  refine lxv (.tuple #[.bool true,.int .i64 0]) F (Jc (F.ev rfl)) fun a F=>?_
  refine lxv (.bool true) F (Jk (F.ev rfl) rfl) fun a F=>?_
  refine lxv (.int .i64 0) F (Jk (F.ev rfl) rfl) fun a F=>?_
  refine lxv (.bool true) F (Jg (F.ev rfl)) fun a F=>?_
  refine lxv (.int .i64 0) F (Jg (F.ev rfl)) fun a F=>?_
  refine Jf ?_
  refine Kgr ?_
  refine lxv (.bool true) F (Jc (F.ev rfl)) fun a F=>?_
  refine lxv (.bool false) F (Xv (b:=true) (r:=false) (F.ev rfl) rfl) fun a F=>?_
  refine lxv (.bool false) F (Jc (F.ev rfl)) fun a F=>?_
  refine lxw 66 false (.int .i64 0) F (Jc (F.ev rfl)) fun a F=>?_
  refine lxw 66 false (.bool false) F (Ua (u:=.int .i64 0) (v:=.int .i64 0) (fun ρ hx hy=>by simp only [execOp,hx,hy];simp [go_sem]) (F.ev rfl) rfl) fun a F=>?_
  refine lxv (.bool false) F (Jt (b:=false) (r:=.bool false) (F.ev rfl) rfl (F.ev rfl) rfl) fun a F=>?_
  refine Jf ?_
  refine Kgq ?_
  refine wp_cond_false (F.ev rfl) ?_
  refine Kgr ?_
  refine lxv (.int .i64 (k:Nat)) F (Jc (F.ev rfl)) fun a F=>?_
  refine lxv (.int .i64 ((k+1:Nat):Int)) F (Ua (u:=.int .i64 (k:Nat)) (v:=.int .i64 1) (fun ρ hx hy=>by simp only [execOp,hx,hy];simp [go_sem];exact Jez (m:=k+1) (by omega)) (F.ev rfl) rfl) fun a F=>?_
  refine lxv (.int .i64 ((k+1:Nat):Int)) F (Jg (F.ev rfl)) fun a F=>?_
  refine Jf ?_
  refine Js ?_
  refine ⟨⟨k+1,by omega,by omega,F.sub [9,7,8,1,3,5],HM⟩,?_⟩
  ·show N+1-(intOf (a.tmps.getD 9 undef)).toNat<N+1-(intOf (aS.tmps.getD 9 undef)).toNat
   rw [F.get 9 _ rfl,FS.get 9 _ rfl]
   show N+1-((k+1:Nat):Int).toNat<N+1-((k:Nat):Int).toNat
   omega
 ·refine Kgr ?_
  refine lxv (.int .i64 (k:Nat)) F (Jc (F.ev rfl)) fun a F=>?_
  refine lxv (.int .i64 (N:Nat)) F (Jc (F.ev rfl)) fun a F=>?_
  refine lxv (.bool false) F (Ua (u:=.int .i64 (k:Nat)) (v:=.int .i64 (N:Nat)) (fun ρ hx hy=>by simp only [execOp,hx,hy];simp [go_sem];omega) (F.ev rfl) (F.ev rfl)) fun a F=>?_
  refine Jf ?_
  refine Kgq ?_
  refine wp_cond_false (F.ev rfl) ?_
  refine Kgq ?_
  refine wp_exit ?_
  repeat (first | refine Vu ?_ | refine Vf ?_)
  have hQ64:wd Q 0<18446744073709551616:=Wt _ _
  refine Kgr ?_
  refine lxv (.pointer (some ⟨gz,2,none⟩)) F (o_fieldSp2 (F.ev rfl)) fun a F=>?_
  refine lxv (.int .u64 (by0:Nat)) F (o_ldSp2 (F.ev rfl) (HM.get 1 rfl)) fun a F=>?_
  refine lxv (.pointer (some ⟨gg,4,none⟩)) F (Kh (F.ev rfl)) fun a F=>?_
  refine lxv (.pointer (some ⟨gg,4,none⟩)) F (Ky (F.ev rfl) rfl) fun a F=>?_
  refine lxv (.int .u64 (wd Q 0)) F (Kx (F.ev rfl) (HM.get 2 rfl) rfl) fun a F=>?_
  refine lxv (.int .u64 ((wd Q 0-1:Nat):Int)) F (o_sub1W (by omega) hQ64 (F.ev rfl) rfl) fun a F=>?_
  refine lxv (.int .u64 ((by0%(wd Q 0-1):Nat):Int)) F (o_remW hby (by omega) (F.ev rfl) (F.ev rfl)) fun a F=>?_
  refine lxv (.int .u64 ((1+by0%(wd Q 0-1):Nat):Int)) F (o_addW1 (by have:=Nat.mod_lt by0 (show 0<wd Q 0-1 by omega);omega) rfl (F.ev rfl)) fun a F=>?_
  refine lxv (.int .u64 ((1+by0%(wd Q 0-1):Nat):Int)) F (Jg (F.ev rfl)) fun a F=>?_
  refine Jf ?_
  have hb1:1≤1+by0%(wd Q 0-1):=Nat.le_add_right _ _
  have hbQ:1+by0%(wd Q 0-1)<Q:=by have:=Nat.mod_lt by0 (show 0<wd Q 0-1 by omega);omega
  generalize 1+by0%(wd Q 0-1)=bb at *
  refine Kgr ?_
  refine lxv (.pointer (some ⟨gz,1,none⟩)) F (o_fieldSp1 (F.ev rfl)) fun a F=>?_
  refine lxv (.int .u8 (ta:Nat)) F (o_ldSp1 (F.ev rfl) (HM.get 1 rfl)) fun a F=>?_
  refine lxv (.int .i64 (ta:Nat)) F (o_conv8 hta (F.ev rfl)) fun a F=>?_
  refine lxv (.int .i64 (N:Nat)) F (Jc (F.ev rfl)) fun a F=>?_
  refine lxv (.int .i64 ((ta%N:Nat):Int)) F (o_remI (by omega) (by omega) (by omega) (F.ev rfl) (F.ev rfl)) fun a F=>?_
  refine lxv (.int .i64 ((ta%N:Nat):Int)) F (Jg (F.ev rfl)) fun a F=>?_
  refine Jf ?_
  have htN:ta%N<N:=Nat.mod_lt _ (by omega)
  generalize ta%N=tt at *
  refine Kgr ?_
  refine lxv (.slice (some ⟨gl,0,none⟩) N cv) F (Jc (F.ev rfl)) fun a F=>?_
  obtain ⟨v2,w2,hrun,R,HM2,l2⟩:=copyR (ρ:=a.eval) (x:=.tmp 83) (A:=[(gl,24,cur),(gz,29,spc mo ta by0),(gg,26,gcs P Q G H)]) (R:=[]) HM (hpv.rsA (HM.get 0 rfl) hvl hvc hcv (fun x hx=>Nat.lt_trans (hvQ x hx) hQ)) rfl (F.ev rfl) (by omega)
  refine Wz (v:=v2) F (Ja rfl _) rfl (by rfl) hrun fun a F=>?_
  obtain ⟨go,cO,co,rfl,HM3,hoc,hoc2,hpo⟩:=l2.own HM2 (by intro e;rw [e] at hvl;simp at hvl;omega)
  clear HM2 l2 hrun
  rw [hvl] at F hoc
  replace HM:=HM3
  clear HM3
  replace HM:=HM.front 3 rfl (M2:=[(go,24,co),(gl,24,cur),(gz,29,spc mo ta by0),(gg,26,gcs P Q G H)]) rfl
  refine lxv (.slice (some ⟨go,0,none⟩) N cO) F (Jg (F.ev rfl)) fun a F=>?_
  refine Jf ?_
  have hget:vs[tt]? = some (Wu Q ls tt):=hvg tt htN
  have hv0:Wu Q ls tt<Q:=Jda hq1 ls tt
  have hne:(Wu Q ls tt+bb)%Q≠Wu Q ls tt:=add_ne hv0 hb1 hbQ
  have hVQ:(Wu Q ls tt+bb)%Q<Q:=Nat.mod_lt _ (by omega)
  have htl:tt<vs.length:=by omega
  refine Kgq ?_
  refine Ks (S:=fun w'=>Mem _ _ w' [(gl,24,cur),(gz,29,spc mo ta by0),(gg,26,gcs P Q G H)]) HM (fun _ h=>h.subl (by repeat (first | exact List.Sublist.refl _ | refine List.Sublist.cons _ ?_))) (by kernel_rfl) fun w HM HBW=>?_
  clear HBW
  try simp only [List.append_eq,List.cons_append,List.nil_append]
  refine Kw [⟨0,86,[],.val (.slice (some ⟨go,0,none⟩) N cO),true⟩,
   ⟨1,87,[0],.val (.int .i64 (tt:Nat)),true⟩,
   ⟨2,88,[1],.val (grp P Q G H),true⟩,
   ⟨3,89,[2],.val (.slice (some ⟨gl,0,none⟩) N cv),true⟩,
   ⟨4,90,[3],.val (.int .i64 (tt:Nat)),true⟩,
   ⟨5,91,[3,4],.val (.pointer (some ⟨gl,0+tt*4,none⟩)),true⟩,
   ⟨6,92,[5],.val (num ((Wu Q ls tt))),true⟩,
   ⟨7,93,[6],.val (.int .u64 (bb:Nat)),true⟩,
   ⟨8,94,[7],.val (num bb),true⟩,
   ⟨9,95,[2,6,8],.val (.tuple #[num (((Wu Q ls tt+bb)%Q)),.int .i64 0]),false⟩,
   ⟨10,85,[9],.val (.tuple #[num (((Wu Q ls tt+bb)%Q)),.int .i64 0]),true⟩,
   ⟨11,96,[10],.val (num (((Wu Q ls tt+bb)%Q))),true⟩,
   ⟨12,97,[10,11],.val (.int .i64 0),true⟩,
   ⟨13,98,[0,1,12],.val (.pointer (some ⟨go,0+tt*4,none⟩)),true⟩] 1 _ F HM (fun _ h=>h.subl (by first | exact List.Sublist.refl _ | (repeat (first | exact List.Sublist.refl _ | refine List.Sublist.cons_cons _ ?_ | refine List.Sublist.cons _ ?_)))) (by kernel_rfl) (by rfl) ?_ ?_ ?_ ?_ ?_ ?_ ?_
  ·kernel_rfl
  ·exact of_decide_eq_true (by kernel_rfl)
  ·(repeat refine all_cons ⟨_,by rfl,by rfl⟩ ?_);exact Jj
  ·kernel_rfl
  ·(repeat (refine all_cons ?_ ?_;rotate_left));exact Jj
   ·exact Ug _ _ _ _ _ _ _ (by rfl) (by rfl) Jh (fun ρ w kn hs=>Jc (kn _ _ (F.old (by rfl) rfl)))
   ·exact Ug _ _ _ _ _ _ _ (by rfl) (by rfl) Jh (fun ρ w kn hs=>Jc (kn _ _ (F.old (by rfl) rfl)))
   ·exact Ug _ _ _ _ _ _ _ (by rfl) (by rfl) Jh (fun ρ w kn hs=>Jy (kn _ _ (F.old (by rfl) rfl)) (hs.get 2 rfl))
   ·exact Ug _ _ _ _ _ _ _ (by rfl) (by rfl) Jh (fun ρ w kn hs=>Jc (kn _ _ (F.old (by rfl) rfl)))
   ·exact Ug _ _ _ _ _ _ _ (by rfl) (by rfl) Jh (fun ρ w kn hs=>Jc (kn _ _ (F.old (by rfl) rfl)))
   ·exact crS (fun ρ w kn hs=>Jay htN (kn _ _ (kc 3 89)) (kn _ _ (kc 4 90)))
   ·exact crS (fun ρ w kn hs=>Xx (kn _ _ (kc 5 91)) (hpv.c4 (hs.get 0 rfl) hget))
   ·exact Ug _ _ _ _ _ _ _ (by rfl) (by rfl) Jh (fun ρ w kn hs=>Jc (kn _ _ (F.old (by rfl) rfl)))
   ·exact Ug _ _ _ _ _ _ _ (by rfl) (by rfl) Jh (fun ρ w kn hs=>o_buildWt (by omega) (kn _ _ (kc 7 93)))
   ·exact Jq _ (by rfl)
   ·exact crS (fun ρ w kn hs=>Jc (kn _ _ (kc 9 95)))
   ·exact crS (fun ρ w kn hs=>Jk (kn _ _ (kc 10 85)) rfl)
   ·exact crS (fun ρ w kn hs=>Jk (kn _ _ (kc 10 85)) rfl)
   ·exact crS (fun ρ w kn hs=>Jay htN (kn _ _ (kc 0 86)) (kn _ _ (kc 1 87)))
  ·(repeat (refine all_cons ?_ ?_;rotate_left));exact Jj
   all_goals try exact sA
   ·exact fun _=>Jm _ 10 _ _ [.tmp 88,.tmp 92,.tmp 94] _ _ _ _ _ _ _ (by rfl) Try.func10 (by kernel_rfl) (by rfl) (by rfl) (Jh) (.cons (kc 2 88) (.cons (kc 6 92) (.cons (kc 8 94) .nil))) ((Jau P Q G H (Wu Q ls tt) bb hQ hq1 hv0 hbQ))
  intro gs rs a w hgs hrs F HM HBW HR HO HT
  obtain rfl:=nl0 rs hrs
  obtain rfl:=nl0 gs hgs
  clear hrs hgs HR HBW HO
  clear HT
  refine Vh (i:=14) HM (by kernel_rfl) (by rfl) rfl rfl (k:=0) rfl (o_storeC (F.ev rfl) (F.ev rfl) (HM.get 0 rfl) (hpo.room htl)) (M2:=[(go,24,((setC co tt ((Wu Q ls tt+bb)%Q)))),(gl,24,cur),(gz,29,spc mo ta by0),(gg,26,gcs P Q G H)]) (rfl) (fun _ h=>h.subl (by first | exact List.Sublist.refl _ | (repeat (first | exact List.Sublist.refl _ | refine List.Sublist.cons_cons _ ?_ | refine List.Sublist.cons _ ?_)))) fun w HM=>?_
  refine Ui (by kernel_rfl) ?_ _
  have hpo2:=hpo.setC htl ((Wu Q ls tt+bb)%Q)
  have hol:(vs.set tt ((Wu Q ls tt+bb)%Q)).length=N:=by rw [List.length_set];exact hvl
  have hoQ:∀ v∈vs.set tt ((Wu Q ls tt+bb)%Q),v<2^256:=fun v hv=>by
   rcases List.mem_or_eq_of_mem_set hv with h | h
   ·exact Nat.lt_trans (hvQ v h) hQ
   ·rw [h];exact Nat.lt_trans hVQ hQ
  obtain ⟨b,hbd⟩:∃ b,decide (N=n)=b:=⟨_,rfl⟩
  have hsp:=spoil_iff gd.pri (by omega) hnN ls vs r.1 hls hvl hvg htN hVQ hne
  rw [hbd] at hsp
  refine Kgr ?_
  refine lxv (grp P Q G H) F (Jy (F.ev rfl) (HM.get 3 rfl)) fun a F=>?_
  refine lxv (.slice (some ⟨go,0,none⟩) N cO) F (Jc (F.ev rfl)) fun a F=>?_
  refine lxv (.slice pl n capl) F (Jc (F.ev rfl)) fun a F=>?_
  refine lxv (.int .i64 (n:Nat)) F (Ur (F.ev rfl)) fun a F=>?_
  refine Jr F (Ja rfl _) rfl (by rfl) (Ji Try.func9 (by kernel_rfl) (by rfl) (.cons (F.ev rfl) (.cons (F.ev rfl) (.cons (F.ev rfl) .nil))) _) (Jdh (b:=b) gd H N cO n _ (vs.set tt ((Wu Q ls tt+bb)%Q)) (comb Q N (fun x=>(vs.set tt ((Wu Q ls tt+bb)%Q)).getD x 0) N) _ hQ7 hN7 h0 hnN (hpo2.rsA (HM.get 0 rfl) hol hoc hoc2 hoQ) (Vj _ _ _ _) (Jbq hq1 _ _ _) (fun x hx=>Uw gd.pri (by omega) _ x hx) hsp) fun a w z F=>?_
  replace HM:=HM.on z
  clear z
  refine lxv (.tuple #[.bool b,.int .i64 0]) F (Jc (F.ev rfl)) fun a F=>?_
  refine lxv (.bool b) F (Jk (F.ev rfl) rfl) fun a F=>?_
  refine lxv (.int .i64 0) F (Jk (F.ev rfl) rfl) fun a F=>?_
  refine lxv (.bool b) F (Jg (F.ev rfl)) fun a F=>?_
  refine lxv (.int .i64 0) F (Jg (F.ev rfl)) fun a F=>?_
  refine Jf ?_
  refine Kgr ?_
  refine lxv (.int .i64 0) F (Jc (F.ev rfl)) fun a F=>?_
  refine lxv (.bool true) F (Ua (u:=.int .i64 0) (v:=.int .i64 0) (fun ρ hx hy=>by simp only [execOp,hx,hy];simp [go_sem]) (F.ev rfl) rfl) fun a F=>?_
  refine lxv (.bool true) F (Jc (F.ev rfl)) fun a F=>?_
  refine lxw 109 true (.bool b) F (Jc (F.ev rfl)) fun a F=>?_
  refine lxw 109 true (.int .i64 (N:Nat)) F (Jc (F.ev rfl)) fun a F=>?_
  refine lxw 109 true (.slice pl n capl) F (Jc (F.ev rfl)) fun a F=>?_
  refine lxw 109 true (.int .i64 (n:Nat)) F (Ur (F.ev rfl)) fun a F=>?_
  refine lxw 109 true (.bool b) F (o_eqlIb hbd (F.ev rfl) (F.ev rfl)) fun a F=>?_
  refine lxw 109 true (.bool true) F (o_eqlB rfl (F.ev rfl) (F.ev rfl)) fun a F=>?_
  refine lxv (.bool true) F (Jt (b:=true) (r:=.bool true) (F.ev rfl) (F.ev rfl) rfl rfl) fun a F=>?_
  refine lxv (.bool true) F (Jg (F.ev rfl)) fun a F=>?_
  refine Jf ?_
  refine Kgq ?_
  refine wp_ret ?_
  repeat (first | refine Jv ?_ | refine Jp ?_)
  exact Kv F HM (Kt F rfl (s:=6) rfl)

theorem dpas_walk (P Q G H n capl:Nat) (pl:Option Addr) (ls:List Nat) (mo ta by0:Nat) (w0:World) (hP:P<2^256) (hQ:Q<2^256) (hG:G<2^256) (hH:H<2^256) (r:RN w0.heap.size w0 pl n capl ls) (hmo:mo<256) (hta:ta<256) (hby:by0<18446744073709551616):Calls Try.prog 3 #[grp P Q G H,.slice pl n capl,spv mo ta by0] w0 fun e w'=>e=.returned (.bool true)∧Below w0.heap.size w0 w':=by
 by_cases h7:7<n
 ·exact dpas_1 P Q G H n capl pl ls mo ta by0 w0 hP hQ hG hH r h7
 ·by_cases h0:n=0
  ·exact dpas_2 P Q G H n capl pl ls mo ta by0 w0 hP hQ hG hH r h0
  ·rcases hf:fineB P Q G H ls with _ | _
   ·exact dpas_3 P Q G H n capl pl ls mo ta by0 w0 hP hQ hG hH r (by omega) (by omega) hf
   ·exact dpas_4 P Q G H n capl pl ls mo ta by0 w0 hP hQ hG hH r hmo hta hby (by omega) (by omega) hf
end Go.Proofs.Ytcbnmdkmfdjpiaa
