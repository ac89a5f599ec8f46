import Derived.Deep.Cut
import Derived.Test.YtmmgmljkmmgjdaaGreatDoorMPb
import Derived.Test.YtmmgmljkmmgjdaaGreatDoorMTree
namespace Go.Proofs.YtmmgmljkmmgjdaaGreatDoor
set_option maxRecDepth 100000
set_option maxHeartbeats 8000000
open Go.RowKit
set_option linter.unusedSimpArgs false
set_option linter.unusedVariables false
attribute [local go_sem ↓] Go.wp_at_zero Go.wp_at_succ

abbrev zcs (n cap m capv l capp X:Nat) (pa pb pc:Option Addr):Array Value:=#[.slice pa n cap,.slice pb m capv,.slice pc l capp,.int .u64 (wd X 0),.int .u64 (wd X 1),.int .u64 (wd X 2),.int .u64 (wd X 3)]
theorem Jit {w:World} {g n cap m capv l capp X:Nat} {pa pb pc:Option Addr} (h:At w g 63 (zcs n cap m capv l capp X pa pb pc)):C4 w g 3 X:=⟨h.cell 3,h.cell 4,h.cell 5,h.cell 6⟩
section
variable {x y:Operand} {dst:Option Tmp} {ty:TypeId} {pos:String} {after:Array Edge} {guard:Option (Nat × Bool)} {ρ:Operand→Value} {w:World} {g n cap m capv l capp X:Nat} {pa pb pc:Option Addr}
theorem Jib (hx:ρ x=.agg (zcs n cap m capv l capp X pa pb pc)):(execOp ρ ⟨dst,.box 63 x,ty,pos,after,guard⟩).run Tryz.prog w=.ok (.value (.pointer (some ⟨w.heap.size,0,none⟩))) (w.alloc (.cells (zcs n cap m capv l capp X pa pb pc) 63)):=by
 simp [execOp,hx,go_sem]
theorem o_loadZ (hx:ρ x=.pointer (some ⟨g,0,none⟩)) (h:At w g 63 (zcs n cap m capv l capp X pa pb pc)):(execOp ρ ⟨dst,.load 63 x,ty,pos,after,guard⟩).run Tryz.prog w=.ok (.value (.agg (zcs n cap m capv l capp X pa pb pc))) w:=by
 have c0:w.cell? ⟨g,0,none⟩=some (.slice pa n cap):=h.cell 0
 have c1:w.cell? ⟨g,1,none⟩=some (.slice pb m capv):=h.cell 1
 have c2:w.cell? ⟨g,2,none⟩=some (.slice pc l capp):=h.cell 2
 have c3:w.cell? ⟨g,3,none⟩=some (.int .u64 (wd X 0)):=h.cell 3
 have c4:w.cell? ⟨g,4,none⟩=some (.int .u64 (wd X 1)):=h.cell 4
 have c5:w.cell? ⟨g,5,none⟩=some (.int .u64 (wd X 2)):=h.cell 5
 have c6:w.cell? ⟨g,6,none⟩=some (.int .u64 (wd X 3)):=h.cell 6
 simp [execOp,hx,go_sem,c0,c1,c2,c3,c4,c5,c6]
theorem Jag (hx:ρ x=.pointer (some ⟨g,0,none⟩)):(execOp ρ ⟨dst,.fieldAddr 63 x 0,ty,pos,after,guard⟩).run Tryz.prog w=.ok (.value (.pointer (some ⟨g,0,none⟩))) w:=by simp [execOp,hx,go_sem]
theorem Jcc (hx:ρ x=.pointer (some ⟨g,0,none⟩)):(execOp ρ ⟨dst,.fieldAddr 63 x 1,ty,pos,after,guard⟩).run Tryz.prog w=.ok (.value (.pointer (some ⟨g,1,none⟩))) w:=by simp [execOp,hx,go_sem]
theorem Jcb (hx:ρ x=.pointer (some ⟨g,0,none⟩)):(execOp ρ ⟨dst,.fieldAddr 63 x 2,ty,pos,after,guard⟩).run Tryz.prog w=.ok (.value (.pointer (some ⟨g,2,none⟩))) w:=by simp [execOp,hx,go_sem]
theorem Jca (hx:ρ x=.pointer (some ⟨g,0,none⟩)):(execOp ρ ⟨dst,.fieldAddr 63 x 3,ty,pos,after,guard⟩).run Tryz.prog w=.ok (.value (.pointer (some ⟨g,3,none⟩))) w:=by simp [execOp,hx,go_sem]
end
theorem flat_pre (xs:List Nat) (y:Nat):(flat (xs++[y])).take (xs.length*4)=flat xs:=by
 rw [Jch,List.take_append_of_le_length (by rw [Vy];exact Nat.le_refl _),List.take_of_length_le (by rw [Vy];exact Nat.le_refl _)]
theorem Xe {R:List (Nat × TypeId × Array Value)} {g n cap:Nat} {xs:List Nat} (h:LW 24 4 R (.slice (some ⟨g,0,none⟩) (n+1) cap) (n+1) (flat (xs++[77]))) (hn:xs.length=n):LW 24 4 R (.slice (some ⟨g,0,none⟩) n cap) n (flat xs):=by
 have:=h.pre (k:=n) (Nat.le_succ n) (Nat.succ_pos n)
 subst hn
 rwa [flat_pre] at this
theorem great10_any (n cap m capv l capp X:Nat) (pa pb pc:Option Addr) (w0:World) (hb:n≤1152921504606846976∧m≤1152921504606846976∧l≤1152921504606846976):Calls Tryz.prog 19 #[.agg (zcs n cap m capv l capp X pa pb pc)] w0 fun e w'=>e=.returned (.bool (decide (60<n+m+l)))∧Below w0.heap.size w0 w':=by
 refine Jx (args:=[.agg (zcs n cap m capv l capp X pa pb pc)]) Tryz.func19 rfl Tryz.ntmps19 (by rfl) fun a F HM=>?_
 refine Kgr ?_
 refine Jn F HM (Ja rfl _) rfl (by rfl) (Jib (F.ev rfl)) fun a w gz F HM=>?_
 refine lxv (.bool false) F (Je rfl) fun a F=>?_
 refine Jc ?_
 refine Kgr ?_
 refine lxv (.pointer (some ⟨gz,0,none⟩)) F (Jag (F.ev rfl)) fun a F=>?_
 refine lxv (.slice pa n cap) F (Kx (F.ev rfl) ((((HM.get 0 rfl)).cell 0).trans rfl)) fun a F=>?_
 refine lxv (.int .i64 (n:Nat)) F (Ko (F.ev rfl)) fun a F=>?_
 refine lxv (.pointer (some ⟨gz,1,none⟩)) F (Jcc (F.ev rfl)) fun a F=>?_
 refine lxv (.slice pb m capv) F (Kx (F.ev rfl) ((((HM.get 0 rfl)).cell 1).trans rfl)) fun a F=>?_
 refine lxv (.int .i64 (m:Nat)) F (Ko (F.ev rfl)) fun a F=>?_
 refine lxv (.int .i64 ((n+m:Nat):Int)) F (Jah (m:=n) (k:=m) (by omega) (F.ev rfl) (F.ev rfl)) fun a F=>?_
 refine lxv (.pointer (some ⟨gz,2,none⟩)) F (Jcb (F.ev rfl)) fun a F=>?_
 refine lxv (.slice pc l capp) F (Kx (F.ev rfl) ((((HM.get 0 rfl)).cell 2).trans rfl)) fun a F=>?_
 refine lxv (.int .i64 (l:Nat)) F (Ko (F.ev rfl)) fun a F=>?_
 refine lxv (.int .i64 ((n+m+l:Nat):Int)) F (Jah (m:=n+m) (k:=l) (by omega) (F.ev rfl) (F.ev rfl)) fun a F=>?_
 refine lxv (.bool ((decide (60<n+m+l)))) F (Jz (u:=.int .i64 ((n+m+l:Nat):Int)) (v:=.int .i64 60) (fun ρ hx hy=>by simp only [execOp,hx,hy];simp [go_sem];omega) (F.ev rfl) rfl) fun a F=>?_
 refine lxv (.bool ((decide (60<n+m+l)))) F (Je (F.ev rfl)) fun a F=>?_
 refine Jc ?_
 refine Kgq ?_
 refine wp_ret ?_
 repeat (first | refine Jt ?_ | refine Jo ?_)
 exact Kp F HM (Ua F rfl (s:=2) rfl)

theorem great10_is {b:Bool} (n cap m capv l capp X:Nat) (pa pb pc:Option Addr) (w0:World) (hb:n≤1152921504606846976∧m≤1152921504606846976∧l≤1152921504606846976) (h:decide (60<n+m+l)=b):Calls Tryz.prog 19 #[.agg (zcs n cap m capv l capp X pa pb pc)] w0 fun e w'=>e=.returned (.bool b)∧Below w0.heap.size w0 w':=by
 subst h;exact great10_any n cap m capv l capp X pa pb pc w0 hb
theorem pof_l (P Q G H:Nat) (n cap m capv l capp X:Nat) (pa pb pc:Option Addr) (xs vs ps:List Nat) (w0:World) (hQ:Q<2^256) (hX:X<2^256) (hb:n≤1152921504606846976∧m≤1152921504606846976∧l≤1152921504606846976) (r:RN w0.heap.size w0 pa n cap xs) (rv:RN w0.heap.size w0 pb m capv vs) (rp:RN w0.heap.size w0 pc l capp ps) (hg:decide (60<n+m+l)=true):Calls Tryz.prog 4 #[grp P Q G H,.agg (zcs n cap m capv l capp X pa pb pc)] w0 fun e w'=>e=.returned (.bool true)∧Below w0.heap.size w0 w':=by
 refine Jx (args:=[grp P Q G H,.agg (zcs n cap m capv l capp X pa pb pc)]) Tryz.func4 rfl Tryz.ntmps4 (by rfl) fun a F HM=>?_
 refine Kgr ?_
 refine Jn F HM (Ja rfl _) rfl (by rfl) (Km (F.ev rfl)) fun a w gg F HM=>?_
 refine Jn F HM (Ja rfl _) rfl (by rfl) (Jib (F.ev rfl)) fun a w gz F HM=>?_
 refine lxv (.bool false) F (Je rfl) fun a F=>?_
 refine Jc ?_
 refine Kgr ?_
 refine lxv (.agg (zcs n cap m capv l capp X pa pb pc)) F (o_loadZ (F.ev rfl) (HM.get 0 rfl)) fun a F=>?_
 refine Jj F (Ja rfl _) rfl (by rfl) (Jh Tryz.func19 (by kernel_rfl) (by rfl) (.cons (F.ev rfl) .nil) _) (great10_is n cap m capv l capp X pa pb pc _ hb hg) fun a w z F=>?_
 replace HM:=HM.on z
 clear z
 refine Jc ?_
 refine Kgq ?_
 refine wp_cond_true (F.ev rfl) ?_
 refine Kgr ?_
 refine lxv (.bool true) F (Je rfl) fun a F=>?_
 refine Jc ?_
 refine Kgq ?_
 refine wp_ret ?_
 repeat (first | refine Jt ?_ | refine Jo ?_)
 exact Kp F HM (Ua F rfl (s:=4) rfl)

theorem pof_k (P Q G H:Nat) (n cap m capv l capp X:Nat) (pa pb pc:Option Addr) (xs vs ps:List Nat) (w0:World) (hQ:Q<2^256) (hX:X<2^256) (hb:n≤1152921504606846976∧m≤1152921504606846976∧l≤1152921504606846976) (r:RN w0.heap.size w0 pa n cap xs) (rv:RN w0.heap.size w0 pb m capv vs) (rp:RN w0.heap.size w0 pc l capp ps) (hg:decide (60<n+m+l)=false):Calls Tryz.prog 4 #[grp P Q G H,.agg (zcs n cap m capv l capp X pa pb pc)] w0 fun e w'=>e=.returned (.bool true)∧Below w0.heap.size w0 w':=by
 refine Jx (args:=[grp P Q G H,.agg (zcs n cap m capv l capp X pa pb pc)]) Tryz.func4 rfl Tryz.ntmps4 (by rfl) fun a F HM=>?_
 have hs:n+m+l≤60:=by have:=of_decide_eq_false hg;omega
 obtain ⟨V,e1,hV,atp,atr⟩:=at_both P Q G H X ps hQ hX
 obtain ⟨ws,e2,hwl,hwb,wtp,wtr⟩:=wts_both P Q G H X xs hQ hX (by rw [r.1];omega)
 obtain ⟨qs,e3,hql,hqb,thp,thr⟩:=thr_both P Q G H xs vs hQ (by rw [r.1];omega)
 refine Kgr ?_
 refine Jn F HM (Ja rfl _) rfl (by rfl) (Km (F.ev rfl)) fun a w gg F HM=>?_
 refine Jn F HM (Ja rfl _) rfl (by rfl) (Jib (F.ev rfl)) fun a w gz F HM=>?_
 refine lxv (.bool false) F (Je rfl) fun a F=>?_
 refine Jc ?_
 refine Kgr ?_
 refine lxv (.agg (zcs n cap m capv l capp X pa pb pc)) F (o_loadZ (F.ev rfl) (HM.get 0 rfl)) fun a F=>?_
 refine Jj F (Ja rfl _) rfl (by rfl) (Jh Tryz.func19 (by kernel_rfl) (by rfl) (.cons (F.ev rfl) .nil) _) (great10_is n cap m capv l capp X pa pb pc _ hb hg) fun a w z F=>?_
 replace HM:=HM.on z
 clear z
 refine Jc ?_
 refine Kgq ?_
 refine wp_cond_false (F.ev rfl) ?_
 obtain ⟨R0,hR0⟩:∃ R0:List (Nat × TypeId × Array Value),R0=[]:=⟨_,rfl⟩
 replace HM:Mem w0.heap.size w0 w ((gz,63,zcs n cap m capv l capp X pa pb pc)::(gg,26,gcs P Q G H)::R0):=by rw [hR0];exact HM
 clear hR0
 refine Kgr ?_
 refine lxv (.pointer (some ⟨gz,0,none⟩)) F (Jag (F.ev rfl)) fun a F=>?_
 refine lxv (.slice pa n cap) F (Kx (F.ev rfl) ((((HM.get 0 rfl)).cell 0).trans rfl)) fun a F=>?_
 refine Wi F (Ja rfl _) rfl (by rfl) (Jh Tryz.func5 (by kernel_rfl) (by rfl) (.cons (F.ev rfl) .nil) _) (Jeo (A:=[(gz,63,zcs n cap m capv l capp X pa pb pc),(gg,26,gcs P Q G H)]) (R:=R0) n cap pa xs _ (by omega) (r.call HM.bel HM.bel.size) HM) fun a w u hu F=>?_
 obtain ⟨gl,cl,Rl,rfl,HM,ll,kl⟩:=hu
 clear kl
 refine lxv (.slice (some ⟨gl,0,none⟩) n cl) F (Je (F.ev rfl)) fun a F=>?_
 refine Jc ?_
 refine Kgr ?_
 refine lxv (.pointer (some ⟨gz,1,none⟩)) F (Jcc (F.ev rfl)) fun a F=>?_
 refine lxv (.slice pb m capv) F (Kx (F.ev rfl) ((((HM.get 0 rfl)).cell 1).trans rfl)) fun a F=>?_
 refine Wi F (Ja rfl _) rfl (by rfl) (Jh Tryz.func5 (by kernel_rfl) (by rfl) (.cons (F.ev rfl) .nil) _) (Jeo (A:=[(gz,63,zcs n cap m capv l capp X pa pb pc),(gg,26,gcs P Q G H)]) (R:=Rl) m capv pb vs _ (by omega) (rv.call HM.bel HM.bel.size) HM) fun a w u hu F=>?_
 obtain ⟨gv,cv,Rv,rfl,HM,lv,kv⟩:=hu
 have dvll:=(kv _ _ _ _ _ ll).2
 replace ll:=(kv _ _ _ _ _ ll).1
 clear kv
 refine lxv (.slice (some ⟨gv,0,none⟩) m cv) F (Je (F.ev rfl)) fun a F=>?_
 refine Jc ?_
 refine Kgr ?_
 refine lxv (.pointer (some ⟨gz,2,none⟩)) F (Jcb (F.ev rfl)) fun a F=>?_
 refine lxv (.slice pc l capp) F (Kx (F.ev rfl) ((((HM.get 0 rfl)).cell 2).trans rfl)) fun a F=>?_
 refine Wi F (Ja rfl _) rfl (by rfl) (Jh Tryz.func5 (by kernel_rfl) (by rfl) (.cons (F.ev rfl) .nil) _) (Jeo (A:=[(gz,63,zcs n cap m capv l capp X pa pb pc),(gg,26,gcs P Q G H)]) (R:=Rv) l capp pc ps _ (by omega) (rp.call HM.bel HM.bel.size) HM) fun a w u hu F=>?_
 obtain ⟨gp,cp,Rp,rfl,HM,lp,kp⟩:=hu
 have dpll:=(kp _ _ _ _ _ ll).2
 have dplv:=(kp _ _ _ _ _ lv).2
 replace ll:=(kp _ _ _ _ _ ll).1
 replace lv:=(kp _ _ _ _ _ lv).1
 clear kp
 refine lxv (.slice (some ⟨gp,0,none⟩) l cp) F (Je (F.ev rfl)) fun a F=>?_
 refine Jc ?_
 refine Kgr ?_
 refine lxv (grp P Q G H) F (Js (F.ev rfl) (HM.get 1 rfl)) fun a F=>?_
 refine lxv (.slice (some ⟨gp,0,none⟩) l cp) F (Jb (F.ev rfl)) fun a F=>?_
 refine lxv (.pointer (some ⟨gz,3,none⟩)) F (Jca (F.ev rfl)) fun a F=>?_
 refine lxv (num X) F (Kh (F.ev rfl) (Jit (HM.get 0 rfl))) fun a F=>?_
 refine Jj F (Ja rfl _) rfl (by rfl) (Jh Tryz.func20 (by kernel_rfl) (by rfl) (.cons (F.ev rfl) (.cons (F.ev rfl) (.cons (F.ev rfl) .nil))) _) (atp l cp _ _ ((Xe lp rp.1).rn HM (fun x hx=>by repeat (first | exact hx | apply List.mem_cons_of_mem)) rp.1 rp.2.2.2.1)) fun a w z F=>?_
 replace HM:=HM.on z
 clear z
 refine lxv (.tuple #[num V,.int .i64 e1]) F (Jb (F.ev rfl)) fun a F=>?_
 refine lxv (num V) F (Jk (F.ev rfl) rfl) fun a F=>?_
 refine lxv (.int .i64 e1) F (Jk (F.ev rfl) rfl) fun a F=>?_
 refine Jn F HM (Ja rfl _) rfl (by rfl) (Jw) fun a w ga F HM=>?_
 refine Jv F HM (Ja rfl _) rfl (k:=0) rfl (Jq (F.ev rfl) (F.ev rfl) (HM.get 0 rfl)) (M2:=((ga,24,ncs V)::(gz,63,zcs n cap m capv l capp X pa pb pc)::(gg,26,gcs P Q G H)::Rp)) (rfl) fun w HM=>?_
 refine lxv (.int .i64 e1) F (Je (F.ev rfl)) fun a F=>?_
 refine Jc ?_
 refine Kgr ?_
 refine lxv (grp P Q G H) F (Js (F.ev rfl) (HM.get 2 rfl)) fun a F=>?_
 refine lxv (.slice (some ⟨gl,0,none⟩) n cl) F (Jb (F.ev rfl)) fun a F=>?_
 refine lxv (.pointer (some ⟨gz,3,none⟩)) F (Jca (F.ev rfl)) fun a F=>?_
 refine lxv (num X) F (Kh (F.ev rfl) (Jit (HM.get 1 rfl))) fun a F=>?_
 refine Wi F (Ja rfl _) rfl (by rfl) (Jh Tryz.func21 (by kernel_rfl) (by rfl) (.cons (F.ev rfl) (.cons (F.ev rfl) (.cons (F.ev rfl) .nil))) _) (wtp _ _ [(ga,24,ncs V),(gz,63,zcs n cap m capv l capp X pa pb pc),(gg,26,gcs P Q G H)] Rp n cl _ _ ((Xe ll r.1).rn HM (fun x hx=>by repeat (first | exact hx | apply List.mem_cons_of_mem)) r.1 r.2.2.2.1) HM) fun a w u hu F=>?_
 obtain ⟨aw,kw,cw,Rw,rfl,hwk,HM,lw,qw⟩:=hu
 have dwll:=(qw _ _ _ _ _ ll).2
 have dwlv:=(qw _ _ _ _ _ lv).2
 have dwlp:=(qw _ _ _ _ _ lp).2
 replace ll:=(qw _ _ _ _ _ ll).1
 replace lv:=(qw _ _ _ _ _ lv).1
 replace lp:=(qw _ _ _ _ _ lp).1
 clear qw
 refine lxv (.tuple #[.slice aw kw cw,.int .i64 e2]) F (Jb (F.ev rfl)) fun a F=>?_
 refine lxv (.slice aw kw cw) F (Jk (F.ev rfl) rfl) fun a F=>?_
 refine lxv (.int .i64 e2) F (Jk (F.ev rfl) rfl) fun a F=>?_
 refine lxv (.slice aw kw cw) F (Je (F.ev rfl)) fun a F=>?_
 refine lxv (.int .i64 e2) F (Je (F.ev rfl)) fun a F=>?_
 refine Jc ?_
 refine Kgr ?_
 refine lxv (grp P Q G H) F (Js (F.ev rfl) (HM.get 2 rfl)) fun a F=>?_
 refine lxv (.slice (some ⟨gl,0,none⟩) n cl) F (Jb (F.ev rfl)) fun a F=>?_
 refine lxv (.slice (some ⟨gv,0,none⟩) m cv) F (Jb (F.ev rfl)) fun a F=>?_
 refine Wi F (Ja rfl _) rfl (by rfl) (Jh Tryz.func22 (by kernel_rfl) (by rfl) (.cons (F.ev rfl) (.cons (F.ev rfl) (.cons (F.ev rfl) .nil))) _) (thp _ _ [(ga,24,ncs V),(gz,63,zcs n cap m capv l capp X pa pb pc),(gg,26,gcs P Q G H)] Rw n cl m cv _ _ _ ((Xe ll r.1).rn HM (fun x hx=>by repeat (first | exact hx | apply List.mem_cons_of_mem)) r.1 r.2.2.2.1) ((Xe lv rv.1).rn HM (fun x hx=>by repeat (first | exact hx | apply List.mem_cons_of_mem)) rv.1 rv.2.2.2.1) HM) fun a w u hu F=>?_
 obtain ⟨au,ku,cu,Ru,rfl,huk,HM,lu,qu⟩:=hu
 have dull:=(qu _ _ _ _ _ ll).2
 have dulv:=(qu _ _ _ _ _ lv).2
 have dulp:=(qu _ _ _ _ _ lp).2
 have dulw:=(qu _ _ _ _ _ lw).2
 replace ll:=(qu _ _ _ _ _ ll).1
 replace lv:=(qu _ _ _ _ _ lv).1
 replace lp:=(qu _ _ _ _ _ lp).1
 replace lw:=(qu _ _ _ _ _ lw).1
 clear qu
 refine lxv (.tuple #[.slice au ku cu,.int .i64 e3]) F (Jb (F.ev rfl)) fun a F=>?_
 refine lxv (.slice au ku cu) F (Jk (F.ev rfl) rfl) fun a F=>?_
 refine lxv (.int .i64 e3) F (Jk (F.ev rfl) rfl) fun a F=>?_
 refine lxv (.slice au ku cu) F (Je (F.ev rfl)) fun a F=>?_
 refine lxv (.int .i64 e3) F (Je (F.ev rfl)) fun a F=>?_
 refine Jc ?_
 refine Kgr ?_
 refine lxv (grp P Q G H) F (Js (F.ev rfl) (HM.get 2 rfl)) fun a F=>?_
 refine lxv (.pointer (some ⟨gz,2,none⟩)) F (Jcb (F.ev rfl)) fun a F=>?_
 refine lxv (.slice pc l capp) F (Kx (F.ev rfl) ((((HM.get 1 rfl)).cell 2).trans rfl)) fun a F=>?_
 refine lxv (.pointer (some ⟨gz,3,none⟩)) F (Jca (F.ev rfl)) fun a F=>?_
 refine lxv (num X) F (Kh (F.ev rfl) (Jit (HM.get 1 rfl))) fun a F=>?_
 refine Jj F (Ja rfl _) rfl (by rfl) (Jh Tryz.func23 (by kernel_rfl) (by rfl) (.cons (F.ev rfl) (.cons (F.ev rfl) (.cons (F.ev rfl) .nil))) _) (atr l capp pc _ (rp.call HM.bel HM.bel.size)) fun a w z F=>?_
 replace HM:=HM.on z
 clear z
 refine lxv (.tuple #[num V,.int .i64 e1]) F (Jb (F.ev rfl)) fun a F=>?_
 refine lxv (num V) F (Jk (F.ev rfl) rfl) fun a F=>?_
 refine lxv (.int .i64 e1) F (Jk (F.ev rfl) rfl) fun a F=>?_
 refine Jn F HM (Ja rfl _) rfl (by rfl) (Jw) fun a w gb F HM=>?_
 refine Jv F HM (Ja rfl _) rfl (k:=0) rfl (Jq (F.ev rfl) (F.ev rfl) (HM.get 0 rfl)) (M2:=((gb,24,ncs V)::(ga,24,ncs V)::(gz,63,zcs n cap m capv l capp X pa pb pc)::(gg,26,gcs P Q G H)::Ru)) (rfl) fun w HM=>?_
 refine lxv (.int .i64 e1) F (Je (F.ev rfl)) fun a F=>?_
 refine Jc ?_
 refine Kgr ?_
 refine lxv (grp P Q G H) F (Js (F.ev rfl) (HM.get 3 rfl)) fun a F=>?_
 refine lxv (.pointer (some ⟨gz,0,none⟩)) F (Jag (F.ev rfl)) fun a F=>?_
 refine lxv (.slice pa n cap) F (Kx (F.ev rfl) ((((HM.get 2 rfl)).cell 0).trans rfl)) fun a F=>?_
 refine lxv (.pointer (some ⟨gz,3,none⟩)) F (Jca (F.ev rfl)) fun a F=>?_
 refine lxv (num X) F (Kh (F.ev rfl) (Jit (HM.get 2 rfl))) fun a F=>?_
 refine Wi F (Ja rfl _) rfl (by rfl) (Jh Tryz.func24 (by kernel_rfl) (by rfl) (.cons (F.ev rfl) (.cons (F.ev rfl) (.cons (F.ev rfl) .nil))) _) (wtr n cap pa _ (r.call HM.bel HM.bel.size)) fun a w u hu F=>?_
 obtain ⟨ax,kx,cx,rfl,hxk,z,rx⟩:=hu
 replace HM:=HM.on z
 clear z
 refine lxv (.tuple #[.slice ax kx cx,.int .i64 e2]) F (Jb (F.ev rfl)) fun a F=>?_
 refine lxv (.slice ax kx cx) F (Jk (F.ev rfl) rfl) fun a F=>?_
 refine lxv (.int .i64 e2) F (Jk (F.ev rfl) rfl) fun a F=>?_
 refine lxv (.slice ax kx cx) F (Je (F.ev rfl)) fun a F=>?_
 refine lxv (.int .i64 e2) F (Je (F.ev rfl)) fun a F=>?_
 refine Jc ?_
 refine Kgr ?_
 refine lxv (grp P Q G H) F (Js (F.ev rfl) (HM.get 3 rfl)) fun a F=>?_
 refine lxv (.pointer (some ⟨gz,0,none⟩)) F (Jag (F.ev rfl)) fun a F=>?_
 refine lxv (.slice pa n cap) F (Kx (F.ev rfl) ((((HM.get 2 rfl)).cell 0).trans rfl)) fun a F=>?_
 refine lxv (.pointer (some ⟨gz,1,none⟩)) F (Jcc (F.ev rfl)) fun a F=>?_
 refine lxv (.slice pb m capv) F (Kx (F.ev rfl) ((((HM.get 2 rfl)).cell 1).trans rfl)) fun a F=>?_
 refine Wi F (Ja rfl _) rfl (by rfl) (Jh Tryz.func25 (by kernel_rfl) (by rfl) (.cons (F.ev rfl) (.cons (F.ev rfl) (.cons (F.ev rfl) .nil))) _) (thr n cap m capv pa pb _ (r.call HM.bel HM.bel.size) (rv.call HM.bel HM.bel.size)) fun a w u hu F=>?_
 obtain ⟨ay,ky,cy,rfl,hyk,z,ry⟩:=hu
 replace HM:=HM.on z
 replace rx:=rx.call z z.size
 clear z
 refine lxv (.tuple #[.slice ay ky cy,.int .i64 e3]) F (Jb (F.ev rfl)) fun a F=>?_
 refine lxv (.slice ay ky cy) F (Jk (F.ev rfl) rfl) fun a F=>?_
 refine lxv (.int .i64 e3) F (Jk (F.ev rfl) rfl) fun a F=>?_
 refine lxv (.slice ay ky cy) F (Je (F.ev rfl)) fun a F=>?_
 refine lxv (.int .i64 e3) F (Je (F.ev rfl)) fun a F=>?_
 refine Jc ?_
 refine Kgr ?_
 refine lxv (num V) F (Jp (F.ev rfl) (HM.get 1 rfl)) fun a F=>?_
 refine lxv (num V) F (Jp (F.ev rfl) (HM.get 0 rfl)) fun a F=>?_
 refine lxv (.bool false) F (o_neqS (F.ev rfl) (F.ev rfl)) fun a F=>?_
 refine lxv (.bool false) F (Jb (F.ev rfl)) fun a F=>?_
 refine lxw 85 false (.slice aw kw cw) F (Jb (F.ev rfl)) fun a F=>?_
 refine lxw 85 false (.slice ax kx cx) F (Jb (F.ev rfl)) fun a F=>?_
 refine Jj F (F.want (t:=85) (c:=false) rfl rfl rfl (by rfl) rfl) rfl (by rfl) (Jh Tryz.func13 (by kernel_rfl) (by rfl) (.cons (F.ev rfl) (.cons (F.ev rfl) .nil)) _) (same_true kw cw kx cx aw ax ws _ (lw.rn HM (fun x hx=>by repeat (first | exact hx | apply List.mem_cons_of_mem)) hwk hwb) rx) fun a w z F=>?_
 replace HM:=HM.on z
 replace rx:=rx.call z z.size;replace ry:=ry.call z z.size
 clear z
 refine lxw 85 false (.bool false) F (Uh (b:=true) (r:=false) (F.ev rfl) rfl) fun a F=>?_
 refine lxv (.bool false) F (Kc (b:=false) (r:=.bool false) (F.ev rfl) rfl (F.ev rfl) rfl) fun a F=>?_
 refine lxv (.bool false) F (Jb (F.ev rfl)) fun a F=>?_
 refine lxw 91 false (.slice au ku cu) F (Jb (F.ev rfl)) fun a F=>?_
 refine lxw 91 false (.slice ay ky cy) F (Jb (F.ev rfl)) fun a F=>?_
 refine Jj F (F.want (t:=91) (c:=false) rfl rfl rfl (by rfl) rfl) rfl (by rfl) (Jh Tryz.func13 (by kernel_rfl) (by rfl) (.cons (F.ev rfl) (.cons (F.ev rfl) .nil)) _) (same_true ku cu ky cy au ay qs _ (lu.rn HM (fun x hx=>by repeat (first | exact hx | apply List.mem_cons_of_mem)) huk hqb) ry) fun a w z F=>?_
 replace HM:=HM.on z
 replace rx:=rx.call z z.size;replace ry:=ry.call z z.size
 clear z
 refine lxw 91 false (.bool false) F (Uh (b:=true) (r:=false) (F.ev rfl) rfl) fun a F=>?_
 refine lxv (.bool false) F (Kc (b:=false) (r:=.bool false) (F.ev rfl) rfl (F.ev rfl) rfl) fun a F=>?_
 refine lxv (.bool false) F (Jb (F.ev rfl)) fun a F=>?_
 refine lxw 97 false (.int .i64 e1) F (Jb (F.ev rfl)) fun a F=>?_
 refine lxw 97 false (.int .i64 e1) F (Jb (F.ev rfl)) fun a F=>?_
 refine lxw 97 false (.bool false) F (Vn (b:=true) (decide_eq_true rfl) (F.ev rfl) (F.ev rfl) rfl) fun a F=>?_
 refine lxv (.bool false) F (Kc (b:=false) (r:=.bool false) (F.ev rfl) rfl (F.ev rfl) rfl) fun a F=>?_
 refine lxv (.bool false) F (Jb (F.ev rfl)) fun a F=>?_
 refine lxw 102 false (.int .i64 e2) F (Jb (F.ev rfl)) fun a F=>?_
 refine lxw 102 false (.int .i64 e2) F (Jb (F.ev rfl)) fun a F=>?_
 refine lxw 102 false (.bool false) F (Vn (b:=true) (decide_eq_true rfl) (F.ev rfl) (F.ev rfl) rfl) fun a F=>?_
 refine lxv (.bool false) F (Kc (b:=false) (r:=.bool false) (F.ev rfl) rfl (F.ev rfl) rfl) fun a F=>?_
 refine lxv (.bool false) F (Jb (F.ev rfl)) fun a F=>?_
 refine lxw 107 false (.int .i64 e3) F (Jb (F.ev rfl)) fun a F=>?_
 refine lxw 107 false (.int .i64 e3) F (Jb (F.ev rfl)) fun a F=>?_
 refine lxw 107 false (.bool false) F (Vn (b:=true) (decide_eq_true rfl) (F.ev rfl) (F.ev rfl) rfl) fun a F=>?_
 refine lxv (.bool false) F (Kc (b:=false) (r:=.bool false) (F.ev rfl) rfl (F.ev rfl) rfl) fun a F=>?_
 refine lxv (.bool false) F (Jb (F.ev rfl)) fun a F=>?_
 refine lxw 112 false (.slice (some ⟨gl,0,none⟩) n cl) F (Jb (F.ev rfl)) fun a F=>?_
 refine lxw 112 false (.pointer (some ⟨gz,0,none⟩)) F (Jag (F.ev rfl)) fun a F=>?_
 refine lxw 112 false (.slice pa n cap) F (Kx (F.ev rfl) ((((HM.get 2 rfl)).cell 0).trans rfl)) fun a F=>?_
 refine Jj F (F.want (t:=112) (c:=false) rfl rfl rfl (by rfl) rfl) rfl (by rfl) (Jh Tryz.func14 (by kernel_rfl) (by rfl) (.cons (F.ev rfl) (.cons (F.ev rfl) .nil)) _) (Jbo gl n cl cap _ pa xs _ (by omega) (ll.tw HM (fun x hx=>by repeat (first | exact hx | apply List.mem_cons_of_mem))) (r.call HM.bel HM.bel.size)) fun a w z F=>?_
 replace HM:=HM.on z
 replace rx:=rx.call z z.size;replace ry:=ry.call z z.size
 clear z
 refine lxw 112 false (.bool false) F (Uh (b:=true) (r:=false) (F.ev rfl) rfl) fun a F=>?_
 refine lxv (.bool false) F (Kc (b:=false) (r:=.bool false) (F.ev rfl) rfl (F.ev rfl) rfl) fun a F=>?_
 refine lxv (.bool false) F (Jb (F.ev rfl)) fun a F=>?_
 refine lxw 119 false (.slice (some ⟨gv,0,none⟩) m cv) F (Jb (F.ev rfl)) fun a F=>?_
 refine lxw 119 false (.pointer (some ⟨gz,1,none⟩)) F (Jcc (F.ev rfl)) fun a F=>?_
 refine lxw 119 false (.slice pb m capv) F (Kx (F.ev rfl) ((((HM.get 2 rfl)).cell 1).trans rfl)) fun a F=>?_
 refine Jj F (F.want (t:=119) (c:=false) rfl rfl rfl (by rfl) rfl) rfl (by rfl) (Jh Tryz.func14 (by kernel_rfl) (by rfl) (.cons (F.ev rfl) (.cons (F.ev rfl) .nil)) _) (Jbo gv m cv capv _ pb vs _ (by omega) (lv.tw HM (fun x hx=>by repeat (first | exact hx | apply List.mem_cons_of_mem))) (rv.call HM.bel HM.bel.size)) fun a w z F=>?_
 replace HM:=HM.on z
 replace rx:=rx.call z z.size;replace ry:=ry.call z z.size
 clear z
 refine lxw 119 false (.bool false) F (Uh (b:=true) (r:=false) (F.ev rfl) rfl) fun a F=>?_
 refine lxv (.bool false) F (Kc (b:=false) (r:=.bool false) (F.ev rfl) rfl (F.ev rfl) rfl) fun a F=>?_
 refine lxv (.bool false) F (Jb (F.ev rfl)) fun a F=>?_
 refine lxw 126 false (.slice (some ⟨gp,0,none⟩) l cp) F (Jb (F.ev rfl)) fun a F=>?_
 refine lxw 126 false (.pointer (some ⟨gz,2,none⟩)) F (Jcb (F.ev rfl)) fun a F=>?_
 refine lxw 126 false (.slice pc l capp) F (Kx (F.ev rfl) ((((HM.get 2 rfl)).cell 2).trans rfl)) fun a F=>?_
 refine Jj F (F.want (t:=126) (c:=false) rfl rfl rfl (by rfl) rfl) rfl (by rfl) (Jh Tryz.func14 (by kernel_rfl) (by rfl) (.cons (F.ev rfl) (.cons (F.ev rfl) .nil)) _) (Jbo gp l cp capp _ pc ps _ (by omega) (lp.tw HM (fun x hx=>by repeat (first | exact hx | apply List.mem_cons_of_mem))) (rp.call HM.bel HM.bel.size)) fun a w z F=>?_
 replace HM:=HM.on z
 replace rx:=rx.call z z.size;replace ry:=ry.call z z.size
 clear z
 refine lxw 126 false (.bool false) F (Uh (b:=true) (r:=false) (F.ev rfl) rfl) fun a F=>?_
 refine lxv (.bool false) F (Kc (b:=false) (r:=.bool false) (F.ev rfl) rfl (F.ev rfl) rfl) fun a F=>?_
 refine Jc ?_
 refine Kgq ?_
 refine wp_cond_false (F.ev rfl) ?_
 refine Kgr ?_
 refine lxv (.agg (bkc 0 Jfq)) F (o_buildBk) fun a F=>?_
 refine Jn F HM (Ja rfl _) rfl (by rfl) (o_allocBk) fun a w gB F HM=>?_
 refine Jv F HM (Ja rfl _) rfl (k:=0) rfl (o_storeBk (F.ev rfl) (F.ev rfl) (HM.get 0 rfl)) (M2:=((gB,57,bkc 0 Jfq)::(gb,24,ncs V)::(ga,24,ncs V)::(gz,63,zcs n cap m capv l capp X pa pb pc)::(gg,26,gcs P Q G H)::Ru)) (by rw [setsBk];rfl) fun w HM=>?_
 refine Jc ?_
 have hsub:∀ x∈Ru,x∈((gb,24,ncs V)::(ga,24,ncs V)::(gz,63,zcs n cap m capv l capp X pa pb pc)::(gg,26,gcs P Q G H)::Ru):=fun x hx=>by repeat (first | exact hx | apply List.mem_cons_of_mem)
 obtain ⟨RR,hRR⟩:∃ RR:List (Nat × TypeId × Array Value),RR=((gb,24,ncs V)::(ga,24,ncs V)::(gz,63,zcs n cap m capv l capp X pa pb pc)::(gg,26,gcs P Q G H)::Ru):=⟨_,rfl⟩
 replace HM:Mem w0.heap.size w0 w ((gB,57,bkc 0 Jfq)::RR):=by rw [hRR];exact HM
 rw [← hRR] at hsub
 clear hRR
 replace ll:=ll.mono hsub
 replace lv:=lv.mono hsub
 replace lp:=lp.mono hsub
 replace lw:=lw.mono hsub
 replace lu:=lu.mono hsub
 clear hsub
 have held:LW 114 3 RR (.slice none 0 0) 0 (enC []):=LW.nil _ _ _
 refine Kgr ?_
 refine lxv (.slice (some ⟨gl,0,none⟩) n cl) F (Jb (F.ev rfl)) fun a F=>?_
 refine Jj F (Ja rfl _) rfl (by rfl) (Jh Tryz.func16 (by kernel_rfl) (by rfl) (.cons (F.ev rfl) (.cons (F.ev rfl) .nil)) _) (Ws 0 gB _ 0 n cl none (some ⟨gl,0,none⟩) (Jfq) ([]:List En) RR _ _ rfl (by decide) (by simp) held HM) fun a w hu F=>?_
 obtain ⟨RB0,ah0,ch0,HM,heldn,ko⟩:=hu
 refine Jc ?_
 replace ll:=ko _ _ _ _ _ (by decide) ll
 replace lv:=ko _ _ _ _ _ (by decide) lv
 replace lp:=ko _ _ _ _ _ (by decide) lp
 replace lw:=ko _ _ _ _ _ (by decide) lw
 replace lu:=ko _ _ _ _ _ (by decide) lu
 clear held;have held:=heldn;clear heldn ko
 refine Kgr ?_
 refine lxv (.slice (some ⟨gv,0,none⟩) m cv) F (Jb (F.ev rfl)) fun a F=>?_
 refine Jj F (Ja rfl _) rfl (by rfl) (Jh Tryz.func16 (by kernel_rfl) (by rfl) (.cons (F.ev rfl) (.cons (F.ev rfl) .nil)) _) (Ws 1 gB _ ch0 m cv ah0 (some ⟨gv,0,none⟩) (Jft (Jfq) 4 (.slice ah0 1 ch0)) ([⟨.slice (some ⟨gl,0,none⟩) n cl,.slice none 0 0,1,n⟩]:List En) RB0 _ _ rfl (by decide) (by simp) held HM) fun a w hu F=>?_
 obtain ⟨RB1,ah1,ch1,HM,heldn,ko⟩:=hu
 refine Jc ?_
 replace ll:=ko _ _ _ _ _ (by decide) ll
 replace lv:=ko _ _ _ _ _ (by decide) lv
 replace lp:=ko _ _ _ _ _ (by decide) lp
 replace lw:=ko _ _ _ _ _ (by decide) lw
 replace lu:=ko _ _ _ _ _ (by decide) lu
 clear held;have held:=heldn;clear heldn ko
 refine Kgr ?_
 refine lxv (.slice (some ⟨gp,0,none⟩) l cp) F (Jb (F.ev rfl)) fun a F=>?_
 refine Jj F (Ja rfl _) rfl (by rfl) (Jh Tryz.func16 (by kernel_rfl) (by rfl) (.cons (F.ev rfl) (.cons (F.ev rfl) .nil)) _) (Ws 2 gB _ ch1 l cp ah1 (some ⟨gp,0,none⟩) (Jft (Jft (Jfq) 4 (.slice ah0 1 ch0)) 4 (.slice ah1 2 ch1)) ([⟨.slice (some ⟨gl,0,none⟩) n cl,.slice none 0 0,1,n⟩,⟨.slice (some ⟨gv,0,none⟩) m cv,.slice none 0 0,2,m⟩]:List En) RB1 _ _ rfl (by decide) (by simp) held HM) fun a w hu F=>?_
 obtain ⟨RB2,ah2,ch2,HM,heldn,ko⟩:=hu
 refine Jc ?_
 replace ll:=ko _ _ _ _ _ (by decide) ll
 replace lv:=ko _ _ _ _ _ (by decide) lv
 replace lp:=ko _ _ _ _ _ (by decide) lp
 replace lw:=ko _ _ _ _ _ (by decide) lw
 replace lu:=ko _ _ _ _ _ (by decide) lu
 clear held;have held:=heldn;clear heldn ko
 refine Kgr ?_
 refine lxv (.slice aw kw cw) F (Jb (F.ev rfl)) fun a F=>?_
 refine Jj F (Ja rfl _) rfl (by rfl) (Jh Tryz.func16 (by kernel_rfl) (by rfl) (.cons (F.ev rfl) (.cons (F.ev rfl) .nil)) _) (Ws 3 gB _ ch2 kw cw ah2 aw (Jft (Jft (Jft (Jfq) 4 (.slice ah0 1 ch0)) 4 (.slice ah1 2 ch1)) 4 (.slice ah2 3 ch2)) ([⟨.slice (some ⟨gl,0,none⟩) n cl,.slice none 0 0,1,n⟩,⟨.slice (some ⟨gv,0,none⟩) m cv,.slice none 0 0,2,m⟩,⟨.slice (some ⟨gp,0,none⟩) l cp,.slice none 0 0,3,l⟩]:List En) RB2 _ _ rfl (by decide) (by simp) held HM) fun a w hu F=>?_
 obtain ⟨RB3,ah3,ch3,HM,heldn,ko⟩:=hu
 refine Jc ?_
 replace ll:=ko _ _ _ _ _ (by decide) ll
 replace lv:=ko _ _ _ _ _ (by decide) lv
 replace lp:=ko _ _ _ _ _ (by decide) lp
 replace lw:=ko _ _ _ _ _ (by decide) lw
 replace lu:=ko _ _ _ _ _ (by decide) lu
 clear held;have held:=heldn;clear heldn ko
 refine Kgr ?_
 refine lxv (.slice au ku cu) F (Jb (F.ev rfl)) fun a F=>?_
 refine Jj F (Ja rfl _) rfl (by rfl) (Jh Tryz.func16 (by kernel_rfl) (by rfl) (.cons (F.ev rfl) (.cons (F.ev rfl) .nil)) _) (Ws 4 gB _ ch3 ku cu ah3 au (Jft (Jft (Jft (Jft (Jfq) 4 (.slice ah0 1 ch0)) 4 (.slice ah1 2 ch1)) 4 (.slice ah2 3 ch2)) 4 (.slice ah3 4 ch3)) ([⟨.slice (some ⟨gl,0,none⟩) n cl,.slice none 0 0,1,n⟩,⟨.slice (some ⟨gv,0,none⟩) m cv,.slice none 0 0,2,m⟩,⟨.slice (some ⟨gp,0,none⟩) l cp,.slice none 0 0,3,l⟩,⟨.slice aw kw cw,.slice none 0 0,4,kw⟩]:List En) RB3 _ _ rfl (by decide) (by simp) held HM) fun a w hu F=>?_
 obtain ⟨RB4,ah4,ch4,HM,heldn,ko⟩:=hu
 refine Jc ?_
 replace ll:=ko _ _ _ _ _ (by decide) ll
 replace lv:=ko _ _ _ _ _ (by decide) lv
 replace lp:=ko _ _ _ _ _ (by decide) lp
 replace lw:=ko _ _ _ _ _ (by decide) lw
 replace lu:=ko _ _ _ _ _ (by decide) lu
 clear held;have held:=heldn;clear heldn ko
 have hN:∀ e∈([⟨.slice (some ⟨gl,0,none⟩) n cl,.slice none 0 0,1,n⟩,⟨.slice (some ⟨gv,0,none⟩) m cv,.slice none 0 0,2,m⟩,⟨.slice (some ⟨gp,0,none⟩) l cp,.slice none 0 0,3,l⟩,⟨.slice aw kw cw,.slice none 0 0,4,kw⟩,⟨.slice au ku cu,.slice none 0 0,5,ku⟩]:List En),(∃ a n c,e.g=.slice a n c)∧e.q≤1000∧e.k≤100000:=by
  simp only [List.mem_cons,List.not_mem_nil,or_false,forall_eq_or_imp,forall_eq]
  exact ⟨⟨⟨_,_,_,rfl⟩,by decide,by omega⟩,⟨⟨_,_,_,rfl⟩,by decide,by omega⟩,⟨⟨_,_,_,rfl⟩,by decide,by omega⟩,⟨⟨_,_,_,rfl⟩,by decide,by show kw≤100000;omega⟩,⟨⟨_,_,_,rfl⟩,by decide,by show ku≤100000;omega⟩⟩
 have hL:∀ e∈([⟨.slice (some ⟨gl,0,none⟩) n cl,.slice none 0 0,1,n⟩,⟨.slice (some ⟨gv,0,none⟩) m cv,.slice none 0 0,2,m⟩,⟨.slice (some ⟨gp,0,none⟩) l cp,.slice none 0 0,3,l⟩,⟨.slice aw kw cw,.slice none 0 0,4,kw⟩,⟨.slice au ku cu,.slice none 0 0,5,ku⟩]:List En),∃ xs,LW 24 4 RB4 e.l e.k xs:=by
  simp only [List.mem_cons,List.not_mem_nil,or_false,forall_eq_or_imp,forall_eq]
  exact ⟨⟨_,Xe ll r.1⟩,⟨_,Xe lv rv.1⟩,⟨_,Xe lp rp.1⟩,⟨_,lw⟩,⟨_,lu⟩⟩
 have hD:([⟨.slice (some ⟨gl,0,none⟩) n cl,.slice none 0 0,1,n⟩,⟨.slice (some ⟨gv,0,none⟩) m cv,.slice none 0 0,2,m⟩,⟨.slice (some ⟨gp,0,none⟩) l cp,.slice none 0 0,3,l⟩,⟨.slice aw kw cw,.slice none 0 0,4,kw⟩,⟨.slice au ku cu,.slice none 0 0,5,ku⟩]:List En).Pairwise fun a b=>Dj a.l b.l:=by
  simp only [List.pairwise_cons,List.mem_cons,List.not_mem_nil,or_false,forall_eq_or_imp,forall_eq,false_implies,implies_true,List.Pairwise.nil,and_true]
  exact ⟨⟨dvll.symm,dpll.symm,dwll.symm,dull.symm⟩,⟨dplv.symm,dwlv.symm,dulv.symm⟩,⟨dwlp.symm,dulp.symm⟩,dulw.symm⟩
 refine Kgr ?_
 refine Jj F (Ja rfl _) rfl (by rfl) (Jh Tryz.func18 (by kernel_rfl) (by rfl) (.cons (F.ev rfl) .nil) _) (apart_any 5 gB _ (Jft (Jft (Jft (Jft (Jft (Jfq) 4 (.slice ah0 1 ch0)) 4 (.slice ah1 2 ch1)) 4 (.slice ah2 3 ch2)) 4 (.slice ah3 4 ch3)) 4 (.slice ah4 5 ch4)) RB4 _ _ ch4 ah4 ([⟨.slice (some ⟨gl,0,none⟩) n cl,.slice none 0 0,1,n⟩,⟨.slice (some ⟨gv,0,none⟩) m cv,.slice none 0 0,2,m⟩,⟨.slice (some ⟨gp,0,none⟩) l cp,.slice none 0 0,3,l⟩,⟨.slice aw kw cw,.slice none 0 0,4,kw⟩,⟨.slice au ku cu,.slice none 0 0,5,ku⟩]:List En) rfl hN (fa_of held hL) (edj_pw hD) rfl rfl rfl rfl rfl rfl rfl rfl rfl rfl rfl rfl rfl rfl rfl rfl HM) fun a w HM F=>?_
 refine lxv (.bool true) F (Je (F.ev rfl)) fun a F=>?_
 refine Jc ?_
 refine Kgq ?_
 refine wp_ret ?_
 repeat (first | refine Jt ?_ | refine Jo ?_)
 exact bodyPost_ret (Ua F rfl (s:=4) rfl) F.defers ⟨rfl,HM⟩

theorem pof_walk (P Q G H:Nat) (n cap m capv l capp X:Nat) (pa pb pc:Option Addr) (xs vs ps:List Nat) (w0:World) (hQ:Q<2^256) (hX:X<2^256) (hb:n≤1152921504606846976∧m≤1152921504606846976∧l≤1152921504606846976) (r:RN w0.heap.size w0 pa n cap xs) (rv:RN w0.heap.size w0 pb m capv vs) (rp:RN w0.heap.size w0 pc l capp ps):Calls Tryz.prog 4 #[grp P Q G H,.agg (zcs n cap m capv l capp X pa pb pc)] w0 fun e w'=>e=.returned (.bool true)∧Below w0.heap.size w0 w':=by
 rcases hg:decide (60<n+m+l) with _ | _
 ·exact pof_k P Q G H n cap m capv l capp X pa pb pc xs vs ps w0 hQ hX hb r rv rp hg
 ·exact pof_l P Q G H n cap m capv l capp X pa pb pc xs vs ps w0 hQ hX hb r rv rp hg
end Go.Proofs.YtmmgmljkmmgjdaaGreatDoor
