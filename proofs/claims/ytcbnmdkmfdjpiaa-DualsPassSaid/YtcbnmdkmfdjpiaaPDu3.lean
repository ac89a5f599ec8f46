import Derived.Deep.Cut
import Derived.Test.YtcbnmdkmfdjpiaaPDu2
import Derived.Test.YtcbnmdkmfdjpiaaPShort
namespace Go.Proofs.Ytcbnmdkmfdjpiaa
set_option maxRecDepth 100000
open Go.RowKit
set_option linter.unusedSimpArgs false
set_option linter.unusedVariables false
attribute [local go_sem ↓] Go.wp_at_zero Go.wp_at_succ

theorem mem_or {A R:List (Nat × TypeId × Array Value)} {b:Nat} (h:∀ y∈A,y.1≠b) (k:∀ y∈R,y.1≠b):∀ y∈A++R,y.1≠b:=fun y hy=>(List.mem_append.1 hy).elim (h y) (k y)
theorem mem_pre {y:Nat} {A R:List (Nat × TypeId × Array Value)} (h:y∈A.map (·.1)):y∈(A++R).map (·.1):=by rw [List.map_append];exact List.mem_append_left _ h
theorem mem_fr {y:Nat × TypeId × Array Value} {A R:List (Nat × TypeId × Array Value)} (h:y∈R):y.1∈(A++R).map (·.1):=List.mem_map_of_mem (List.mem_append_right _ h)
theorem Jea {fn:Func} {a:Act} {N:Nat} {L:List (Nat × Value)} {df:List Deferred} {w:World} (F:Fr a N L df) {s t gs gt:Nat} {v:Value} {e:Int} (hf:fn.results=#[.cell s 27,.cell t 33]) (h1:lk L s=some (.pointer (some ⟨gs,0,none⟩))) (h2:lk L t=some (.pointer (some ⟨gt,0,none⟩)))
  (A1:At w gs 27 #[v]) (A2:At w gt 33 #[.int .i64 e]):(results fn a.tmps).run Try.prog w=.ok (.tuple #[v,.int .i64 e]) w:=by
 have e1:=F.get s _ h1
 have e2:=F.get t _ h2
 rw [Array.getD_eq_getD_getElem?] at e1 e2
 have c0:w.cell? ⟨gs,0,none⟩=some v:=A1.cell 0
 have d0:w.cell? ⟨gt,0,none⟩=some (.int .i64 e):=A2.cell 0
 simp [results,hf,go_sem,e1,e2,c0,d0]
theorem Uk {x y:Operand} {dst:Option Tmp} {ty:TypeId} {pos:String} {after:Array Edge} {guard:Option (Nat × Bool)} {ρ:Operand→Value} {w:World} {m n:Int} {b:Bool} (hb:decide (n<m)=b) (hx:ρ x=.int .i64 m) (hy:ρ y=.int .i64 n):(execOp ρ ⟨dst,.binOp .gtr 3 x y 3,ty,pos,after,guard⟩).run Try.prog w=.ok (.value (.bool b)) w:=by
 subst hb;simp only [execOp,hx,hy];simp [go_sem]
theorem Jcs {x y:Operand} {dst:Option Tmp} {ty:TypeId} {pos:String} {after:Array Edge} {guard:Option (Nat × Bool)} {ρ:Operand→Value} {w:World} {m n:Int} {b:Bool} (hb:decide (m<n)=b) (hx:ρ x=.int .i64 m) (hy:ρ y=.int .i64 n):(execOp ρ ⟨dst,.binOp .lss 3 x y 3,ty,pos,after,guard⟩).run Try.prog w=.ok (.value (.bool b)) w:=by
 subst hb;simp only [execOp,hx,hy];simp [go_sem]
theorem o_geqI {x y:Operand} {dst:Option Tmp} {ty:TypeId} {pos:String} {after:Array Edge} {guard:Option (Nat × Bool)} {ρ:Operand→Value} {w:World} {m n:Int} {b:Bool} (hb:decide (n≤m)=b) (hx:ρ x=.int .i64 m) (hy:ρ y=.int .i64 n):(execOp ρ ⟨dst,.binOp .geq 3 x y 3,ty,pos,after,guard⟩).run Try.prog w=.ok (.value (.bool b)) w:=by
 subst hb;simp only [execOp,hx,hy];simp [go_sem]
noncomputable def invN (Q a:Nat):Nat:=by
 classical exact if h:∃ V,V<Q∧a*V%Q=1 then h.choose else 0
theorem Jeo {Q a:Nat} (h:∃ V,V<Q∧a*V%Q=1):invN Q a<Q∧a*invN Q a%Q=1:=by
 unfold invN;rw [dif_pos h];exact h.choose_spec
theorem Jfn {Q a:Nat} (h1:1<Q) (h:Nat.gcd a Q=1):∃ V,V<Q∧a*V%Q=1:=by
 obtain ⟨b,k,hk⟩:=U.of_gcd h1 h
 refine ⟨Ki Q b,Xc h1 _,?_⟩
 have h2:Cg Q ((a*Ki Q b%Q:Nat):Int) ((1:Nat):Int):=by
  rw [Int.natCast_emod,Int.natCast_mul]
  exact (Cg.emod Q _).trans ((Cg.mulL (a:Int) (Xd h1 b)).trans ⟨k,hk⟩)
 exact Cg.eq (Nat.mod_lt _ (by omega)) h1 h2
def Jew (Q:Nat) (ps:List Nat):Bool:=decide (1<Q) && ps.all fun c=>decide (c<Q)
theorem polB_iff {Q:Nat} {ps:List Nat}:Jew Q ps=true ↔ 1<Q∧∀ c∈ps,c<Q:=by simp [Jew]
theorem Jfq {Q:Nat} (n:Int) (ps:List Nat):atB Q (Ki Q n) ps=Jew Q ps:=by
 rw [Bool.eq_iff_iff,atB_iff,polB_iff]
 exact ⟨fun h=>⟨h.1,h.2.2⟩,fun h=>⟨h.1,Xc h.1 _,h.2⟩⟩
def Dn (Q k x:Nat):Nat:=Ki Q (DDl (x+1) (List.range k))
noncomputable def wN (Q k:Nat) (ps:List Nat) (x:Nat):Nat:=Ki Q (evZ (zs ps) ((Ki Q ((x+1:Nat):Int):Nat):Int))*invN Q (Dn Q k x)%Q
set_option maxRecDepth 100000 in
set_option maxHeartbeats 800000 in
theorem word_b1 (P Q G H m capp:Nat) (pp:Option Addr) (n:Int) (w0:World) (h:n<1):Calls Try.prog 15 #[grp P Q G H,.int .i64 n,.slice pp m capp] w0 fun e w'=>e=.returned (.tuple #[.slice none 0 0,.int .i64 1])∧Below w0.heap.size w0 w':=by
 refine Xb (args:=[grp P Q G H,.int .i64 n,.slice pp m capp]) Try.func15 rfl Try.ntmps15 (by rfl) fun a0 F HM=>?_
 refine Kgr ?_
 refine Jn F HM (Ja rfl _) rfl (by rfl) (Kn (F.ev rfl)) fun a w gr F HM=>?_
 refine Jn F HM (Ja rfl _) rfl (by rfl) (Jao (F.ev rfl)) fun a w gn F HM=>?_
 refine Jn F HM (Ja rfl _) rfl (by rfl) (Jcm (F.ev rfl)) fun a w gq F HM=>?_
 refine Jn F HM (Ja rfl _) rfl (by rfl) (Jaa) fun a w go F HM=>?_
 refine Jn F HM (Ja rfl _) rfl (by rfl) (Wy) fun a w ge F HM=>?_
 refine Jf ?_
 refine Kgr ?_
 refine lxv (.int .i64 n) F (Vr (F.ev rfl) ((((HM.get 3 rfl)).cell 0).trans rfl)) fun a F=>?_
 refine lxv (.bool true) F (Jcs (decide_eq_true (by omega)) (F.ev rfl) rfl) fun a F=>?_
 refine lxv (.bool true) F (Jc (F.ev rfl)) fun a F=>?_
 refine lxp 18 true F fun a F=>?_
 refine lxp 18 true F fun a F=>?_
 refine lxv (.bool true) F (Jt (b:=true) (r:=.bool true) (F.ev rfl) rfl (F.ev rfl) rfl) fun a F=>?_
 refine lxv (.bool true) F (Jc (F.ev rfl)) fun a F=>?_
 refine lxp 22 true F fun a F=>?_
 refine lxp 22 true F fun a F=>?_
 refine lxp 22 true F fun a F=>?_
 refine lxp 22 true F fun a F=>?_
 refine lxv (.bool true) F (Jt (b:=true) (r:=.bool true) (F.ev rfl) rfl (F.ev rfl) rfl) fun a F=>?_
 refine Jf ?_
 refine Kgq ?_
 refine wp_cond_true (F.ev rfl) ?_
 refine Kgr ?_
 refine Ju F HM (Ja rfl _) rfl (k:=1) rfl (Xg (F.ev rfl) rfl (HM.get 1 rfl)) (M2:=[(ge,33,#[.int .i64 0]),(go,27,#[.slice none 0 0]),(gq,27,#[.slice pp m capp]),(gn,3,#[.int .i64 n]),(gr,26,gcs P Q G H)]) (rfl) fun w HM=>?_
 refine Ju F HM (Ja rfl _) rfl (k:=0) rfl (Vi (F.ev rfl) rfl (HM.get 0 rfl)) (M2:=[(ge,33,#[.int .i64 1]),(go,27,#[.slice none 0 0]),(gq,27,#[.slice pp m capp]),(gn,3,#[.int .i64 n]),(gr,26,gcs P Q G H)]) (rfl) fun w HM=>?_
 refine Jf ?_
 refine Kgq ?_
 refine wp_ret ?_
 repeat (first | refine Jv ?_ | refine Jp ?_)
 show LeavesInM Fence.wide 9 _ _ _ _ _ _ _
 rw [F.defers]
 exact ⟨_,Jea F (s:=6) (t:=7) rfl rfl rfl (HM.get 1 rfl) (HM.get 0 rfl),rfl,HM.bel⟩

set_option maxRecDepth 100000 in
set_option maxHeartbeats 800000 in
theorem word_b2 (P Q G H m capp:Nat) (pp:Option Addr) (n:Int) (w0:World) (h:7<n):Calls Try.prog 15 #[grp P Q G H,.int .i64 n,.slice pp m capp] w0 fun e w'=>e=.returned (.tuple #[.slice none 0 0,.int .i64 1])∧Below w0.heap.size w0 w':=by
 refine Xb (args:=[grp P Q G H,.int .i64 n,.slice pp m capp]) Try.func15 rfl Try.ntmps15 (by rfl) fun a0 F HM=>?_
 refine Kgr ?_
 refine Jn F HM (Ja rfl _) rfl (by rfl) (Kn (F.ev rfl)) fun a w gr F HM=>?_
 refine Jn F HM (Ja rfl _) rfl (by rfl) (Jao (F.ev rfl)) fun a w gn F HM=>?_
 refine Jn F HM (Ja rfl _) rfl (by rfl) (Jcm (F.ev rfl)) fun a w gq F HM=>?_
 refine Jn F HM (Ja rfl _) rfl (by rfl) (Jaa) fun a w go F HM=>?_
 refine Jn F HM (Ja rfl _) rfl (by rfl) (Wy) fun a w ge F HM=>?_
 refine Jf ?_
 refine Kgr ?_
 refine lxv (.int .i64 n) F (Vr (F.ev rfl) ((((HM.get 3 rfl)).cell 0).trans rfl)) fun a F=>?_
 refine lxv (.bool false) F (Jcs (decide_eq_false (by omega)) (F.ev rfl) rfl) fun a F=>?_
 refine lxv (.bool false) F (Jc (F.ev rfl)) fun a F=>?_
 refine lxw 18 false (.int .i64 n) F (Vr (F.ev rfl) ((((HM.get 3 rfl)).cell 0).trans rfl)) fun a F=>?_
 refine lxw 18 false (.bool true) F (Uk (decide_eq_true (by omega)) (F.ev rfl) rfl) fun a F=>?_
 refine lxv (.bool true) F (Jt (b:=false) (r:=.bool true) (F.ev rfl) rfl (F.ev rfl) rfl) fun a F=>?_
 refine lxv (.bool true) F (Jc (F.ev rfl)) fun a F=>?_
 refine lxp 22 true F fun a F=>?_
 refine lxp 22 true F fun a F=>?_
 refine lxp 22 true F fun a F=>?_
 refine lxp 22 true F fun a F=>?_
 refine lxv (.bool true) F (Jt (b:=true) (r:=.bool true) (F.ev rfl) rfl (F.ev rfl) rfl) fun a F=>?_
 refine Jf ?_
 refine Kgq ?_
 refine wp_cond_true (F.ev rfl) ?_
 refine Kgr ?_
 refine Ju F HM (Ja rfl _) rfl (k:=1) rfl (Xg (F.ev rfl) rfl (HM.get 1 rfl)) (M2:=[(ge,33,#[.int .i64 0]),(go,27,#[.slice none 0 0]),(gq,27,#[.slice pp m capp]),(gn,3,#[.int .i64 n]),(gr,26,gcs P Q G H)]) (rfl) fun w HM=>?_
 refine Ju F HM (Ja rfl _) rfl (k:=0) rfl (Vi (F.ev rfl) rfl (HM.get 0 rfl)) (M2:=[(ge,33,#[.int .i64 1]),(go,27,#[.slice none 0 0]),(gq,27,#[.slice pp m capp]),(gn,3,#[.int .i64 n]),(gr,26,gcs P Q G H)]) (rfl) fun w HM=>?_
 refine Jf ?_
 refine Kgq ?_
 refine wp_ret ?_
 repeat (first | refine Jv ?_ | refine Jp ?_)
 show LeavesInM Fence.wide 9 _ _ _ _ _ _ _
 rw [F.defers]
 exact ⟨_,Jea F (s:=6) (t:=7) rfl rfl rfl (HM.get 1 rfl) (HM.get 0 rfl),rfl,HM.bel⟩

set_option maxRecDepth 100000 in
set_option maxHeartbeats 800000 in
theorem word_b3 (P Q G H m capp:Nat) (pp:Option Addr) (n:Int) (w0:World) (h0:1≤n) (h7:n≤7) (h:n≤(m:Int)):Calls Try.prog 15 #[grp P Q G H,.int .i64 n,.slice pp m capp] w0 fun e w'=>e=.returned (.tuple #[.slice none 0 0,.int .i64 1])∧Below w0.heap.size w0 w':=by
 refine Xb (args:=[grp P Q G H,.int .i64 n,.slice pp m capp]) Try.func15 rfl Try.ntmps15 (by rfl) fun a0 F HM=>?_
 refine Kgr ?_
 refine Jn F HM (Ja rfl _) rfl (by rfl) (Kn (F.ev rfl)) fun a w gr F HM=>?_
 refine Jn F HM (Ja rfl _) rfl (by rfl) (Jao (F.ev rfl)) fun a w gn F HM=>?_
 refine Jn F HM (Ja rfl _) rfl (by rfl) (Jcm (F.ev rfl)) fun a w gq F HM=>?_
 refine Jn F HM (Ja rfl _) rfl (by rfl) (Jaa) fun a w go F HM=>?_
 refine Jn F HM (Ja rfl _) rfl (by rfl) (Wy) fun a w ge F HM=>?_
 refine Jf ?_
 refine Kgr ?_
 refine lxv (.int .i64 n) F (Vr (F.ev rfl) ((((HM.get 3 rfl)).cell 0).trans rfl)) fun a F=>?_
 refine lxv (.bool false) F (Jcs (decide_eq_false (by omega)) (F.ev rfl) rfl) fun a F=>?_
 refine lxv (.bool false) F (Jc (F.ev rfl)) fun a F=>?_
 refine lxw 18 false (.int .i64 n) F (Vr (F.ev rfl) ((((HM.get 3 rfl)).cell 0).trans rfl)) fun a F=>?_
 refine lxw 18 false (.bool false) F (Uk (decide_eq_false (by omega)) (F.ev rfl) rfl) fun a F=>?_
 refine lxv (.bool false) F (Jt (b:=false) (r:=.bool false) (F.ev rfl) rfl (F.ev rfl) rfl) fun a F=>?_
 refine lxv (.bool false) F (Jc (F.ev rfl)) fun a F=>?_
 refine lxw 22 false (.slice pp m capp) F (Jct (F.ev rfl) ((((HM.get 2 rfl)).cell 0).trans rfl)) fun a F=>?_
 refine lxw 22 false (.int .i64 (m:Nat)) F (Ur (F.ev rfl)) fun a F=>?_
 refine lxw 22 false (.int .i64 n) F (Vr (F.ev rfl) ((((HM.get 3 rfl)).cell 0).trans rfl)) fun a F=>?_
 refine lxw 22 false (.bool true) F (o_geqI (decide_eq_true (by omega)) (F.ev rfl) (F.ev rfl)) fun a F=>?_
 refine lxv (.bool true) F (Jt (b:=false) (r:=.bool true) (F.ev rfl) rfl (F.ev rfl) rfl) fun a F=>?_
 refine Jf ?_
 refine Kgq ?_
 refine wp_cond_true (F.ev rfl) ?_
 refine Kgr ?_
 refine Ju F HM (Ja rfl _) rfl (k:=1) rfl (Xg (F.ev rfl) rfl (HM.get 1 rfl)) (M2:=[(ge,33,#[.int .i64 0]),(go,27,#[.slice none 0 0]),(gq,27,#[.slice pp m capp]),(gn,3,#[.int .i64 n]),(gr,26,gcs P Q G H)]) (rfl) fun w HM=>?_
 refine Ju F HM (Ja rfl _) rfl (k:=0) rfl (Vi (F.ev rfl) rfl (HM.get 0 rfl)) (M2:=[(ge,33,#[.int .i64 1]),(go,27,#[.slice none 0 0]),(gq,27,#[.slice pp m capp]),(gn,3,#[.int .i64 n]),(gr,26,gcs P Q G H)]) (rfl) fun w HM=>?_
 refine Jf ?_
 refine Kgq ?_
 refine wp_ret ?_
 repeat (first | refine Jv ?_ | refine Jp ?_)
 show LeavesInM Fence.wide 9 _ _ _ _ _ _ _
 rw [F.defers]
 exact ⟨_,Jea F (s:=6) (t:=7) rfl rfl rfl (HM.get 1 rfl) (HM.get 0 rfl),rfl,HM.bel⟩

theorem word_bad (P Q G H m capp:Nat) (pp:Option Addr) (n:Int) (w0:World) (h:¬ (1≤n∧n≤7∧(m:Int)<n)):Calls Try.prog 15 #[grp P Q G H,.int .i64 n,.slice pp m capp] w0 fun e w'=>e=.returned (.tuple #[.slice none 0 0,.int .i64 1])∧Below w0.heap.size w0 w':=by
 by_cases h1:n<1
 ·exact word_b1 P Q G H m capp pp n w0 h1
 ·by_cases h2:7<n
  ·exact word_b2 P Q G H m capp pp n w0 h2
  ·exact word_b3 P Q G H m capp pp n w0 (by omega) (by omega) (by omega)
set_option maxRecDepth 100000 in
set_option maxHeartbeats 800000 in
theorem word_w (P Q G H k m capp:Nat) (pp:Option Addr) (ps:List Nat) (w0:World) (hQ:Q<2^256) (hk1:1≤k) (hk7:k≤7) (hm:m<k) (rp:RN w0.heap.size w0 pp m capp ps):Calls Try.prog 15 #[grp P Q G H,.int .i64 (k:Nat),.slice pp m capp] w0 fun e w'=>(Jew Q ps=false∧e=.returned (.tuple #[.slice none 0 0,.int .i64 1])∧Below w0.heap.size w0 w')∨(Jew Q ps=true∧(∃ x,x<k∧Nat.gcd (Dn Q k x) Q≠1)∧e=.returned (.tuple #[.slice none 0 0,.int .i64 7])∧Below w0.heap.size w0 w')∨((∀ x,x<k→Jew Q ps=true∧Nat.gcd (Dn Q k x) Q=1)∧∃ u,e=.returned u∧∃ v,u=.tuple #[v,.int .i64 0]∧Below w0.heap.size w0 w'∧NR w0.heap.size w' v ((List.range k).map (wN Q k ps))):=by
 refine Xb (args:=[grp P Q G H,.int .i64 (k:Nat),.slice pp m capp]) Try.func15 rfl Try.ntmps15 (by rfl) fun a0 F HM=>?_
 refine Kgr ?_
 refine Jn F HM (Ja rfl _) rfl (by rfl) (Kn (F.ev rfl)) fun a w gr F HM=>?_
 refine Jn F HM (Ja rfl _) rfl (by rfl) (Jao (F.ev rfl)) fun a w gn F HM=>?_
 refine Jn F HM (Ja rfl _) rfl (by rfl) (Jcm (F.ev rfl)) fun a w gq F HM=>?_
 refine Jn F HM (Ja rfl _) rfl (by rfl) (Jaa) fun a w go F HM=>?_
 refine Jn F HM (Ja rfl _) rfl (by rfl) (Wy) fun a w ge F HM=>?_
 refine Jf ?_
 refine Kgr ?_
 refine lxv (.int .i64 (k:Nat)) F (Vr (F.ev rfl) ((((HM.get 3 rfl)).cell 0).trans rfl)) fun a F=>?_
 refine lxv (.bool false) F (Jcs (decide_eq_false (by omega)) (F.ev rfl) rfl) fun a F=>?_
 refine lxv (.bool false) F (Jc (F.ev rfl)) fun a F=>?_
 refine lxw 18 false (.int .i64 (k:Nat)) F (Vr (F.ev rfl) ((((HM.get 3 rfl)).cell 0).trans rfl)) fun a F=>?_
 refine lxw 18 false (.bool false) F (Uk (decide_eq_false (by omega)) (F.ev rfl) rfl) fun a F=>?_
 refine lxv (.bool false) F (Jt (b:=false) (r:=.bool false) (F.ev rfl) rfl (F.ev rfl) rfl) fun a F=>?_
 refine lxv (.bool false) F (Jc (F.ev rfl)) fun a F=>?_
 refine lxw 22 false (.slice pp m capp) F (Jct (F.ev rfl) ((((HM.get 2 rfl)).cell 0).trans rfl)) fun a F=>?_
 refine lxw 22 false (.int .i64 (m:Nat)) F (Ur (F.ev rfl)) fun a F=>?_
 refine lxw 22 false (.int .i64 (k:Nat)) F (Vr (F.ev rfl) ((((HM.get 3 rfl)).cell 0).trans rfl)) fun a F=>?_
 refine lxw 22 false (.bool false) F (o_geqI (decide_eq_false (by omega)) (F.ev rfl) (F.ev rfl)) fun a F=>?_
 refine lxv (.bool false) F (Jt (b:=false) (r:=.bool false) (F.ev rfl) rfl (F.ev rfl) rfl) fun a F=>?_
 refine Jf ?_
 refine Kgq ?_
 refine wp_cond_false (F.ev rfl) ?_
 refine Kgr ?_
 refine Jn F HM (Ja rfl _) rfl (by rfl) (Jaa) fun a w gd F HM=>?_
 refine Jf ?_
 refine Kgr ?_
 refine lxv (grp P Q G H) F (Jy (F.ev rfl) (HM.get 5 rfl)) fun a F=>?_
 refine lxv (.int .i64 (k:Nat)) F (Vr (F.ev rfl) ((((HM.get 4 rfl)).cell 0).trans rfl)) fun a F=>?_
 refine Xo F (Ja rfl _) rfl (by rfl) (Ji Try.func36 (by kernel_rfl) (by rfl) (.cons (F.ev rfl) (.cons (F.ev rfl) .nil)) _) (numbers_ex P Q G H k _) fun a w u hu F=>?_
 obtain ⟨gN,gG,rfl,z,hgN,hgG,hNG,hatN,hatG⟩:=hu
 replace HM:=HM.cons2 z hgN hgG hNG hatN hatG
 clear z hgN hgG hNG hatN hatG
 refine Jf ?_
 refine Kgq ?_
 refine (wpIn_wide (n:=9)).1 ?_
 have hb3:Below w0.heap.size w0 w:=HM.bel
 have hNlt:=(HM.get 0 rfl).lt
 have hGlt:=(HM.get 1 rfl).lt
 refine wpIn_rangeFunc_ownH rfl (by decide) (gf:=53) (lb:=#[.pointer (some ⟨gN,0,none⟩),.pointer (some ⟨gG,0,none⟩)]) (F.ev rfl) trivial (enters_of Try.func53 (by kernel_rfl) rfl)
  (num_seq P Q G H k 8 gN gG w0.heap.size hQ (by omega) w hb3.size (HM.get 0 rfl) (HM.get 1 rfl)) KQ.trans ?Kb (Below.refl _ _) (fun _=>rfl)
  (fun pre W=>∃ (v:Value) (R:List (Nat × TypeId × Array Value)),LR R v ((pre.map (·%2000)).map (wN Q k ps))∧(∀ y∈R,v.ownBlock=some y.1)∧(∀ y∈pre,Jew Q ps=true∧Nat.gcd (Dn Q k (y%2000)) Q=1)∧Mem w0.heap.size w0 W ((gN,3,#[.int .i64 (k:Nat)])::(gG,26,gcs P Q G H)::(gd,27,#[v])::(ge,33,#[.int .i64 0])::(go,27,#[.slice none 0 0])::(gq,27,#[.slice pp m capp])::(gn,3,#[.int .i64 (k:Nat)])::(gr,26,gcs P Q G H)::R))
  (fun c pre W=>c=.ret∧∃ (E:Int) (v:Value) (R:List (Nat × TypeId × Array Value)),Mem w0.heap.size w0 W ((gN,3,#[.int .i64 (k:Nat)])::(gG,26,gcs P Q G H)::(gd,27,#[v])::(ge,33,#[.int .i64 E])::(go,27,#[.slice none 0 0])::(gq,27,#[.slice pp m capp])::(gn,3,#[.int .i64 (k:Nat)])::(gr,26,gcs P Q G H)::R)∧((E=1∧Jew Q ps=false)∨(E=7∧Jew Q ps=true∧∃ y∈pre,Nat.gcd (Dn Q k (y%2000)) Q≠1)))
  ?hI ?hIx ⟨_,[],LR.nil _,fun _ h=>(by cases h),fun _ h=>(by cases h),HM⟩
  (fun x a' W=>∃ gx,w0.heap.size≤gx∧(∀ y∈[gN,gG,gd,ge,go,gq,gn,gr],y≠gx)∧(∃ u,At W gd 27 #[u]∧u.ownBlock≠some gx)∧Fr a' 67 ((9,.int .i64 ((x%2000+1:Nat):Int))::(10,.pointer (some ⟨gx,0,none⟩))::[(3,.pointer (some ⟨gr,0,none⟩)),(4,.pointer (some ⟨gn,0,none⟩)),(5,.pointer (some ⟨gq,0,none⟩)),(6,.pointer (some ⟨go,0,none⟩)),(7,.pointer (some ⟨ge,0,none⟩)),(8,.pointer (some ⟨gd,0,none⟩))]) []∧At W gx 24 (ncs (Ki Q ((x%2000+1:Nat):Int))))
  ?hAx ?assign ?body ?done ?stop
 case Kb=>
  intro W l o o2 hl ho hc _
  exact ⟨⟨(Below.refl _ _).grown (grownBy_putObj' W l o2) (Nat.le_trans hb3.size (Nat.le_trans hl (Nat.le_of_lt (Array.getElem?_eq_some_iff.1 ho).1))) (fun k e=>by cases e;exact Nat.le_trans hb3.size hl),fun hb=>World.putObj_heap_other (by omega)⟩,⟨(Below.refl _ _).grown (grownBy_putObj' W l o2) (Nat.le_trans hb3.size (Nat.le_trans hl (Nat.le_of_lt (Array.getElem?_eq_some_iff.1 ho).1))) (fun k e=>by cases e;exact Nat.le_trans hb3.size hl),fun hb=>World.putObj_heap_other (by omega)⟩⟩
 case hI=>
  intro pre W W2 row h hg hr
  have hr2:∀ r,row=some r→w0.heap.size≤r∧∃ o:Obj,W.heap[r]? = some o∧o.isCells=false:=fun r e=>⟨Nat.le_trans hb3.size (hr r e).1,(hr r e).2⟩
  obtain ⟨v,R,lv,hR,hp,h⟩:=h
  exact ⟨v,R,lv,hR,hp,h.grown hg hr2⟩
 case hIx=>
  intro c pre W W2 row h hg hr
  have hr2:∀ r,row=some r→w0.heap.size≤r∧∃ o:Obj,W.heap[r]? = some o∧o.isCells=false:=fun r e=>⟨Nat.le_trans hb3.size (hr r e).1,(hr r e).2⟩
  obtain ⟨hc,E,v,R,h,hE⟩:=h
  exact ⟨hc,E,v,R,h.grown hg hr2,hE⟩
 case hAx=>
  rintro x a2 u W W2 row ⟨gx,h0,d0,⟨t0,ta0,tn0⟩,hF,k0⟩ hg hr
  exact ⟨gx,h0,d0,⟨t0,Jef gd _ _ () W W2 row ta0 hg (fun r e=>(hr r e).2),tn0⟩,hF,Jef gx _ _ () W W2 row k0 hg (fun r e=>(hr r e).2)⟩
 case assign=>
  rintro lp pre x W K ⟨v,R,lv,hR,hpre,hM⟩ hK
  have F0:Fr { tmps:=((#[31,32]:Array Tmp).zip #[.int .i64 ((x%2000+1:Nat):Int),num (Ki Q ((x%2000+1:Nat):Int))]).foldl (fun t (p,v)=>t.setIfInBounds p v) a.tmps,defers:=[] } 67 ((32,num (Ki Q ((x%2000+1:Nat):Int)))::(31,.int .i64 ((x%2000+1:Nat):Int))::[(3,.pointer (some ⟨gr,0,none⟩)),(4,.pointer (some ⟨gn,0,none⟩)),(5,.pointer (some ⟨gq,0,none⟩)),(6,.pointer (some ⟨go,0,none⟩)),(7,.pointer (some ⟨ge,0,none⟩)),(8,.pointer (some ⟨gd,0,none⟩))]) []:=by
   have e:((#[31,32]:Array Tmp).zip #[.int .i64 ((x%2000+1:Nat):Int),num (Ki Q ((x%2000+1:Nat):Int))]).foldl (fun t (p,v)=>t.setIfInBounds p v) a.tmps=((a.put (some 31) (.int .i64 ((x%2000+1:Nat):Int))).put (some 32) (num (Ki Q ((x%2000+1:Nat):Int)))).tmps:=by simp [Act.put]
   have F2:=((F.sub [3,4,5,6,7,8]).put (.int .i64 ((x%2000+1:Nat):Int)) (d:=31) rfl).put (num (Ki Q ((x%2000+1:Nat):Int))) (d:=32) rfl
   rw [e]
   exact ⟨F2.size,rfl,F2.get⟩
  generalize ({ tmps:=_,defers:=[] }:Act)=a3 at F0 ⊢
  have HM:=hM.again
  have hb4:Below w0.heap.size w0 W:=hM.bel
  have F:=F0
  clear F0
  repeat (first | refine Js ?_ | refine Jo ?_ | refine wpIn_seq ?_ | refine wpIn_block ?_ | refine wpIn_skip ?_)
  refine Vl (by rfl) (by rintro ⟨_,_,h⟩;exact h) ?_
  refine lxv (.int .i64 ((x%2000+1:Nat):Int)) F (Jg (F.ev rfl)) fun a F=>?_
  refine Jf ?_
  repeat (first | refine Js ?_ | refine Jo ?_ | refine wpIn_seq ?_ | refine wpIn_block ?_ | refine wpIn_skip ?_)
  refine Vl (by rfl) (by rintro ⟨_,_,h⟩;exact h) ?_
  refine Jn F HM (Ja rfl _) rfl (by rfl) (Kd) fun a w gx F HM=>?_
  refine Ju F HM (Ja rfl _) rfl (k:=0) rfl (Ka (F.ev rfl) (F.ev rfl) (HM.get 0 rfl)) (M2:=((gx,24,ncs (Ki Q ((x%2000+1:Nat):Int)))::(gN,3,#[.int .i64 (k:Nat)])::(gG,26,gcs P Q G H)::(gd,27,#[v])::(ge,33,#[.int .i64 0])::(go,27,#[.slice none 0 0])::(gq,27,#[.slice pp m capp])::(gn,3,#[.int .i64 (k:Nat)])::(gr,26,gcs P Q G H)::R)) (rfl) fun w HM=>?_
  refine Jf ?_
  repeat (first | refine Js ?_ | refine Jo ?_ | refine wpIn_seq ?_ | refine wpIn_block ?_ | refine wpIn_skip ?_)
  refine hK _ _ (HM.oth.from _) ⟨⟨HM.bel,fun _=>(HM.get 1 rfl).trans (hM.get 0 rfl).symm⟩,⟨HM.bel,fun _=>(HM.get 2 rfl).trans (hM.get 1 rfl).symm⟩⟩ ⟨v,R,lv,hR,hpre,(hM.join (HM.drop 1))⟩ ⟨gx,HM.own _ (List.mem_cons_self),(fun y hy e=>(List.nodup_cons.1 HM.nd).1 (by rw [← e];first | (simpa using hy) | exact mem_pre (A:=[(gN,3,#[.int .i64 (k:Nat)]),(gG,26,gcs P Q G H),(gd,27,#[v]),(ge,33,#[.int .i64 0]),(go,27,#[.slice none 0 0]),(gq,27,#[.slice pp m capp]),(gn,3,#[.int .i64 (k:Nat)]),(gr,26,gcs P Q G H)]) (R:=R) hy)),⟨_,HM.get 3 rfl,lv.fresh (fun y hy e=>(List.nodup_cons.1 HM.nd).1 (by rw [← e];exact mem_fr (y:=y) (A:=[(gN,3,#[.int .i64 (k:Nat)]),(gG,26,gcs P Q G H),(gd,27,#[v]),(ge,33,#[.int .i64 0]),(go,27,#[.slice none 0 0]),(gq,27,#[.slice pp m capp]),(gn,3,#[.int .i64 (k:Nat)]),(gr,26,gcs P Q G H)]) hy))⟩,F.sub [9,10,3,4,5,6,7,8],HM.get 0 rfl⟩
 case body=>
  rintro lp pre x a3 W hlp _ ⟨v,R,lv,hR,hpre,hM⟩ ⟨gx,h0,d0,⟨t0,ta0,tn0⟩,F,k0⟩ hpl
  have HM:=hM.again
  obtain rfl:=(hM.get 2 rfl).inj1 ta0
  replace HM:=HM.add h0 (fun y hy=>mem_or (A:=[(gN,3,#[.int .i64 (k:Nat)]),(gG,26,gcs P Q G H),(gd,27,#[v]),(ge,33,#[.int .i64 0]),(go,27,#[.slice none 0 0]),(gq,27,#[.slice pp m capp]),(gn,3,#[.int .i64 (k:Nat)]),(gr,26,gcs P Q G H)]) (fun y hy=>d0 y.1 (List.mem_map_of_mem (f:=(·.1)) hy)) (fun y hy e=>tn0 (by rw [hR y hy,e])) y hy) k0
  clear h0 d0 k0 ta0 tn0
  have rq:=rp.call (hM.bel.trans HM.bel) (hM.bel.trans HM.bel).size
  by_cases hz:Jew Q ps=true
  ·have h1:1<Q:=(polB_iff.1 hz).1
   repeat (first | refine Js ?_ | refine Jo ?_ | refine wpIn_seq ?_ | refine wpIn_block ?_ | refine wpIn_skip ?_)
   refine Vl (by rfl) (by rintro ⟨_,_,h⟩;exact h) ?_
   refine lxv (grp P Q G H) F (Jy (F.ev rfl) (HM.get 8 rfl)) fun a F=>?_
   refine lxv (.slice pp m capp) F (Jct (F.ev rfl) ((((HM.get 6 rfl)).cell 0).trans rfl)) fun a F=>?_
   refine lxv (num (Ki Q ((x%2000+1:Nat):Int))) F (Kg (F.ev rfl) (HM.get 0 rfl)) fun a F=>?_
   refine Jr F (Ja rfl _) rfl (by rfl) (Ji Try.func17 (by kernel_rfl) (by rfl) (.cons (F.ev rfl) (.cons (F.ev rfl) (.cons (F.ev rfl) .nil))) _) (Jcx P Q G H (Ki Q ((x%2000+1:Nat):Int)) m capp pp ps _ hQ (by rw [Jfq];exact hz) rq) fun a w z F=>?_
   replace HM:=HM.on z
   clear z
   refine lxv (.tuple #[num (Ki Q (evZ (zs ps) ((Ki Q ((x%2000+1:Nat):Int):Nat):Int))),.int .i64 0]) F (Jc (F.ev rfl)) fun a F=>?_
   refine lxv (num (Ki Q (evZ (zs ps) ((Ki Q ((x%2000+1:Nat):Int):Nat):Int)))) F (Jk (F.ev rfl) rfl) fun a F=>?_
   refine lxv (.int .i64 0) F (Jk (F.ev rfl) rfl) fun a F=>?_
   refine Jn F HM (Ja rfl _) rfl (by rfl) (Kd) fun a w gv F HM=>?_
   refine Ju F HM (Ja rfl _) rfl (k:=0) rfl (Ka (F.ev rfl) (F.ev rfl) (HM.get 0 rfl)) (M2:=((gv,24,ncs (Ki Q (evZ (zs ps) ((Ki Q ((x%2000+1:Nat):Int):Nat):Int))))::(gx,24,ncs (Ki Q ((x%2000+1:Nat):Int)))::(gN,3,#[.int .i64 (k:Nat)])::(gG,26,gcs P Q G H)::(gd,27,#[v])::(ge,33,#[.int .i64 0])::(go,27,#[.slice none 0 0])::(gq,27,#[.slice pp m capp])::(gn,3,#[.int .i64 (k:Nat)])::(gr,26,gcs P Q G H)::R)) (rfl) fun w HM=>?_
   refine lxv (.int .i64 0) F (Jg (F.ev rfl)) fun a F=>?_
   refine Jf ?_
   repeat (first | refine Js ?_ | refine Jo ?_ | refine wpIn_seq ?_ | refine wpIn_block ?_ | refine wpIn_skip ?_)
   refine Vl (by rfl) (by rintro ⟨_,_,h⟩;exact h) ?_
   refine lxv (.int .i64 0) F (Jc (F.ev rfl)) fun a F=>?_
   refine lxv (.bool false) F (Ua (u:=.int .i64 0) (v:=.int .i64 0) (fun ρ hx hy=>by simp only [execOp,hx,hy];simp [go_sem]) (F.ev rfl) rfl) fun a F=>?_
   refine Jf ?_
   repeat (first | refine Js ?_ | refine Jo ?_ | refine wpIn_seq ?_ | refine wpIn_block ?_ | refine wpIn_skip ?_)
   refine wpIn_cond_false (F.ev rfl) ?_
   by_cases hgc:Nat.gcd (Dn Q k (x%2000)) Q=1
   ·obtain ⟨hVQ,hV1⟩:=Jeo (Jfn h1 hgc)
    repeat (first | refine Js ?_ | refine Jo ?_ | refine wpIn_seq ?_ | refine wpIn_block ?_ | refine wpIn_skip ?_)
    refine sx_enterRI (by rfl) (by rintro ⟨_,_,h⟩;exact h) (S:=fun w'=>Mem _ _ w' ((gv,24,ncs (Ki Q (evZ (zs ps) ((Ki Q ((x%2000+1:Nat):Int):Nat):Int))))::(gx,24,ncs (Ki Q ((x%2000+1:Nat):Int)))::(gN,3,#[.int .i64 (k:Nat)])::(gG,26,gcs P Q G H)::(gd,27,#[v])::(ge,33,#[.int .i64 0])::(go,27,#[.slice none 0 0])::(gq,27,#[.slice pp m capp])::(gn,3,#[.int .i64 (k:Nat)])::(gr,26,gcs P Q G H)::R)) HM (fun _ h=>h) (by kernel_rfl) fun w HM HBW=>?_
    clear HBW
    try simp only [List.append_eq,List.cons_append,List.nil_append]
    refine Kw [⟨0,44,[],.val (grp P Q G H),true⟩,
   ⟨1,45,[0],.val (grp P Q G H),true⟩,
   ⟨2,46,[1],.val (.int .i64 (k:Nat)),true⟩,
   ⟨3,47,[2],.val (.int .i64 ((x%2000+1:Nat):Int)),true⟩,
   ⟨9,13,[],.cell 24 (ncs 0),false⟩,
   ⟨4,48,[1,2,3],.val (num (Dn Q k (x%2000))),false⟩,
   ⟨5,49,[0,5],.val (.tuple #[num (invN Q (Dn Q k (x%2000))),.int .i64 0]),false⟩,
   ⟨6,43,[6],.val (.tuple #[num (invN Q (Dn Q k (x%2000))),.int .i64 0]),true⟩,
   ⟨7,50,[7],.val (num (invN Q (Dn Q k (x%2000)))),true⟩,
   ⟨8,51,[7,8],.val (.int .i64 0),true⟩] 2 _ F HM (fun _ h=>h.subl (by first | exact List.Sublist.refl _ | (repeat (first | exact List.Sublist.refl _ | refine List.Sublist.cons_cons _ ?_ | refine List.Sublist.cons _ ?_)))) (by kernel_rfl) (by rfl) ?_ ?_ ?_ ?_ ?_ ?_ ?_
    ·kernel_rfl
    ·exact of_decide_eq_true (by kernel_rfl)
    ·(repeat refine all_cons ⟨_,by rfl,by rfl⟩ ?_);exact Jj
    ·kernel_rfl
    ·(repeat (refine all_cons ?_ ?_;rotate_left));exact Jj
     all_goals try exact Jq _ (by rfl)
     ·exact Ug _ _ _ _ _ _ _ (by rfl) (by rfl) Jh (fun ρ w kn hs=>Jy (kn _ _ (F.old (by rfl) rfl)) (hs.get 9 rfl))
     ·exact Ug _ _ _ _ _ _ _ (by rfl) (by rfl) Jh (fun ρ w kn hs=>Jy (kn _ _ (F.old (by rfl) rfl)) (hs.get 9 rfl))
     ·exact Ug _ _ _ _ _ _ _ (by rfl) (by rfl) Jh (fun ρ w kn hs=>Vr (kn _ _ (F.old (by rfl) rfl)) ((((hs.get 8 rfl)).cell 0).trans rfl))
     ·exact Ug _ _ _ _ _ _ _ (by rfl) (by rfl) Jh (fun ρ w kn hs=>Jc (kn _ _ (F.old (by rfl) rfl)))
     ·exact crS (fun ρ w kn hs=>Jc (kn _ _ (kc 6 49)))
     ·exact crS (fun ρ w kn hs=>Jk (kn _ _ (kc 7 43)) rfl)
     ·exact crS (fun ρ w kn hs=>Jk (kn _ _ (kc 7 43)) rfl)
    ·(repeat (refine all_cons ?_ ?_;rotate_left));exact Jj
     all_goals try exact sA
     ·exact fun _=>Jam _ _ _ _ _ _ _ _ (by rfl) (by rfl) (Nat.le_refl _) (fun ρ w=>Kd)
     ·exact fun _=>Jm _ 38 _ _ [.tmp 45,.tmp 46,.tmp 47] _ _ _ _ _ _ _ (by rfl) Try.func38 (by kernel_rfl) (by rfl) (by rfl) (Jh) (.cons (kc 1 45) (.cons (kc 2 46) (.cons (kc 3 47) .nil))) ((fun w=>apart_any P Q G H k (x%2000+1) hQ h1 (by omega) (by omega) w))
     ·exact fun _=>Jm _ 37 _ _ [.tmp 44,.tmp 48] _ _ _ _ _ _ _ (by rfl) Try.func37 (by kernel_rfl) (by rfl) (by rfl) (Jh) (.cons (kc 0 44) (.cons (kc 5 48) .nil)) ((sinv_yes P Q G H _ _ hQ h1 (Xc h1 _) hVQ hV1))
    intro gs rs a w hgs hrs F HM HBW HR HO HT
    obtain rfl:=nl0 rs hrs
    obtain ⟨gi,rfl⟩:=nl1 gs hgs
    clear hrs hgs HR HBW HO
    clear HT
    refine Vh (i:=10) HM (by kernel_rfl) (by rfl) rfl rfl (k:=0) rfl (Ka (F.ev rfl) (F.ev rfl) (HM.get 0 rfl)) (M2:=((gi,24,ncs (invN Q (Dn Q k (x%2000))))::(gv,24,ncs (Ki Q (evZ (zs ps) ((Ki Q ((x%2000+1:Nat):Int):Nat):Int))))::(gx,24,ncs (Ki Q ((x%2000+1:Nat):Int)))::(gN,3,#[.int .i64 (k:Nat)])::(gG,26,gcs P Q G H)::(gd,27,#[v])::(ge,33,#[.int .i64 0])::(go,27,#[.slice none 0 0])::(gq,27,#[.slice pp m capp])::(gn,3,#[.int .i64 (k:Nat)])::(gr,26,gcs P Q G H)::R)) (rfl) (fun _ h=>h.subl (by first | exact List.Sublist.refl _ | (repeat (first | exact List.Sublist.refl _ | refine List.Sublist.cons_cons _ ?_ | refine List.Sublist.cons _ ?_)))) fun w HM=>?_
    refine Kq (i:=11) (d:=12) (x:=.tmp 51) (v:=.int .i64 0) F ((HM.subl (by first | exact List.Sublist.refl _ | (repeat (first | exact List.Sublist.refl _ | refine List.Sublist.cons_cons _ ?_ | refine List.Sublist.cons _ ?_))))) (by kernel_rfl) (by rfl) (by rfl) (F.ev rfl) fun a F=>?_
    refine Ui (by kernel_rfl) ?_ _
    repeat (first | refine Js ?_ | refine Jo ?_ | refine wpIn_seq ?_ | refine wpIn_block ?_ | refine wpIn_skip ?_)
    refine Vl (by rfl) (by rintro ⟨_,_,h⟩;exact h) ?_
    refine lxv (.int .i64 0) F (Jc (F.ev rfl)) fun a F=>?_
    refine lxv (.bool false) F (Ua (u:=.int .i64 0) (v:=.int .i64 0) (fun ρ hx hy=>by simp only [execOp,hx,hy];simp [go_sem]) (F.ev rfl) rfl) fun a F=>?_
    refine Jf ?_
    repeat (first | refine Js ?_ | refine Jo ?_ | refine wpIn_seq ?_ | refine wpIn_block ?_ | refine wpIn_skip ?_)
    refine wpIn_cond_false (F.ev rfl) ?_
    repeat (first | refine Js ?_ | refine Jo ?_ | refine wpIn_seq ?_ | refine wpIn_block ?_ | refine wpIn_skip ?_)
    refine Vl (by rfl) (by rintro ⟨_,_,h⟩;exact h) ?_
    refine lxv (grp P Q G H) F (Jy (F.ev rfl) (HM.get 10 rfl)) fun a F=>?_
    refine lxv (num (Ki Q (evZ (zs ps) ((Ki Q ((x%2000+1:Nat):Int):Nat):Int)))) F (Kg (F.ev rfl) (HM.get 1 rfl)) fun a F=>?_
    refine lxv (num (invN Q (Dn Q k (x%2000)))) F (Kg (F.ev rfl) (HM.get 0 rfl)) fun a F=>?_
    refine Jr F (Ja rfl _) rfl (by rfl) (Ji Try.func39 (by kernel_rfl) (by rfl) (.cons (F.ev rfl) (.cons (F.ev rfl) (.cons (F.ev rfl) .nil))) _) ((Jdb P Q G H _ _ hQ h1 (Xc h1 _) hVQ) _) fun a w z F=>?_
    replace HM:=HM.on z
    clear z
    refine lxv (.tuple #[num (wN Q k ps (x%2000)),.int .i64 0]) F (Jc (F.ev rfl)) fun a F=>?_
    refine lxv (num (wN Q k ps (x%2000))) F (Jk (F.ev rfl) rfl) fun a F=>?_
    refine lxv (.int .i64 0) F (Jk (F.ev rfl) rfl) fun a F=>?_
    refine Jn F HM (Ja rfl _) rfl (by rfl) (Kd) fun a w gu F HM=>?_
    refine Ju F HM (Ja rfl _) rfl (k:=0) rfl (Ka (F.ev rfl) (F.ev rfl) (HM.get 0 rfl)) (M2:=((gu,24,ncs (wN Q k ps (x%2000)))::(gi,24,ncs (invN Q (Dn Q k (x%2000))))::(gv,24,ncs (Ki Q (evZ (zs ps) ((Ki Q ((x%2000+1:Nat):Int):Nat):Int))))::(gx,24,ncs (Ki Q ((x%2000+1:Nat):Int)))::(gN,3,#[.int .i64 (k:Nat)])::(gG,26,gcs P Q G H)::(gd,27,#[v])::(ge,33,#[.int .i64 0])::(go,27,#[.slice none 0 0])::(gq,27,#[.slice pp m capp])::(gn,3,#[.int .i64 (k:Nat)])::(gr,26,gcs P Q G H)::R)) (rfl) fun w HM=>?_
    refine lxv (.int .i64 0) F (Jg (F.ev rfl)) fun a F=>?_
    refine Jf ?_
    have hll:((pre.map (·%2000)).map (wN Q k ps)).length<7:=by simp;omega
    repeat (first | refine Js ?_ | refine Jo ?_ | refine wpIn_seq ?_ | refine wpIn_block ?_ | refine wpIn_skip ?_)
    refine Vl (by rfl) (by rintro ⟨_,_,h⟩;exact h) ?_
    refine lxv v F (o_ldSV (F.ev rfl) ((((HM.get 6 rfl)).cell 0).trans rfl) lv.sl) fun a F=>?_
    refine lxv (num (wN Q k ps (x%2000))) F (Kg (F.ev rfl) (HM.get 0 rfl)) fun a F=>?_
    refine Jaq F HM (Ja rfl _) rfl (by rfl) (Wx (F.ev rfl)) fun a w gz F HM=>?_
    obtain ⟨v2,w2,hrun,R,HM2,l2,lk2⟩:=Jgg (ρ:=a.eval) (s:=.tmp 62) (x:=.tmp 64) (A:=[(gz,24,(Xs (wN Q k ps (x%2000)))),(gu,24,ncs (wN Q k ps (x%2000))),(gi,24,ncs (invN Q (Dn Q k (x%2000)))),(gv,24,ncs (Ki Q (evZ (zs ps) ((Ki Q ((x%2000+1:Nat):Int):Nat):Int)))),(gx,24,ncs (Ki Q ((x%2000+1:Nat):Int))),(gN,3,#[.int .i64 (k:Nat)]),(gG,26,gcs P Q G H),(gd,27,#[v]),(ge,33,#[.int .i64 0]),(go,27,#[.slice none 0 0]),(gq,27,#[.slice pp m capp]),(gn,3,#[.int .i64 (k:Nat)]),(gr,26,gcs P Q G H)]) HM lv (F.ev rfl) (F.ev rfl) rfl ((Pf.one (wN Q k ps (x%2000))).lie (HM.get 0 rfl)) (by simp) (by omega)
    replace HM:=HM2;have lv:=l2
    refine Wz (v:=v2) F (Ja rfl _) rfl (by rfl) hrun fun a F=>?_
    refine Ju F HM (Ja rfl _) rfl (k:=7) rfl (o_storeSV (F.ev rfl) (F.ev rfl) lv.sl (HM.get 7 rfl)) (M2:=((gz,24,(Xs (wN Q k ps (x%2000))))::(gu,24,ncs (wN Q k ps (x%2000)))::(gi,24,ncs (invN Q (Dn Q k (x%2000))))::(gv,24,ncs (Ki Q (evZ (zs ps) ((Ki Q ((x%2000+1:Nat):Int):Nat):Int))))::(gx,24,ncs (Ki Q ((x%2000+1:Nat):Int)))::(gN,3,#[.int .i64 (k:Nat)])::(gG,26,gcs P Q G H)::(gd,27,#[v2])::(ge,33,#[.int .i64 0])::(go,27,#[.slice none 0 0])::(gq,27,#[.slice pp m capp])::(gn,3,#[.int .i64 (k:Nat)])::(gr,26,gcs P Q G H)::R)) (rfl) fun w HM=>?_
    refine Jf ?_
    obtain ⟨R2,lv2,hR2,HM3⟩:=LR.least (A:=[(gz,24,(Xs (wN Q k ps (x%2000)))),(gu,24,ncs (wN Q k ps (x%2000))),(gi,24,ncs (invN Q (Dn Q k (x%2000)))),(gv,24,ncs (Ki Q (evZ (zs ps) ((Ki Q ((x%2000+1:Nat):Int):Nat):Int)))),(gx,24,ncs (Ki Q ((x%2000+1:Nat):Int))),(gN,3,#[.int .i64 (k:Nat)]),(gG,26,gcs P Q G H),(gd,27,#[v2]),(ge,33,#[.int .i64 0]),(go,27,#[.slice none 0 0]),(gq,27,#[.slice pp m capp]),(gn,3,#[.int .i64 (k:Nat)]),(gr,26,gcs P Q G H)]) lv HM
    replace HM:=HM3
    repeat (first | refine Js ?_ | refine Jo ?_ | refine wpIn_seq ?_ | refine wpIn_block ?_ | refine wpIn_skip ?_)
    refine ⟨HM.oth.from _,⟨⟨HM.bel,fun _=>(HM.get 5 rfl).trans (hM.get 0 rfl).symm⟩,⟨HM.bel,fun _=>(HM.get 6 rfl).trans (hM.get 1 rfl).symm⟩⟩,⟨_,_,by rw [List.map_append,List.map_append];exact lv2,hR2,?_,hM.join (HM.drop 5)⟩⟩
    intro y hy
    rcases List.mem_append.1 hy with hy | hy
    ·exact hpre y hy
    ·rw [List.mem_singleton.1 hy];exact ⟨hz,hgc⟩
   ·repeat (first | refine Js ?_ | refine Jo ?_ | refine wpIn_seq ?_ | refine wpIn_block ?_ | refine wpIn_skip ?_)
    refine sx_enterRI (by rfl) (by rintro ⟨_,_,h⟩;exact h) (S:=fun w'=>Mem _ _ w' ((gv,24,ncs (Ki Q (evZ (zs ps) ((Ki Q ((x%2000+1:Nat):Int):Nat):Int))))::(gx,24,ncs (Ki Q ((x%2000+1:Nat):Int)))::(gN,3,#[.int .i64 (k:Nat)])::(gG,26,gcs P Q G H)::(gd,27,#[v])::(ge,33,#[.int .i64 0])::(go,27,#[.slice none 0 0])::(gq,27,#[.slice pp m capp])::(gn,3,#[.int .i64 (k:Nat)])::(gr,26,gcs P Q G H)::R)) HM (fun _ h=>h) (by kernel_rfl) fun w HM HBW=>?_
    clear HBW
    try simp only [List.append_eq,List.cons_append,List.nil_append]
    refine Kw [⟨0,44,[],.val (grp P Q G H),true⟩,
   ⟨1,45,[0],.val (grp P Q G H),true⟩,
   ⟨2,46,[1],.val (.int .i64 (k:Nat)),true⟩,
   ⟨3,47,[2],.val (.int .i64 ((x%2000+1:Nat):Int)),true⟩,
   ⟨9,13,[],.cell 24 (ncs 0),false⟩,
   ⟨4,48,[1,2,3],.val (num (Dn Q k (x%2000))),false⟩,
   ⟨5,49,[0,5],.val (.tuple #[num 0,.int .i64 7]),false⟩,
   ⟨6,43,[6],.val (.tuple #[num 0,.int .i64 7]),true⟩,
   ⟨7,50,[7],.val (num 0),true⟩,
   ⟨8,51,[7,8],.val (.int .i64 7),true⟩] 2 _ F HM (fun _ h=>h.subl (by first | exact List.Sublist.refl _ | (repeat (first | exact List.Sublist.refl _ | refine List.Sublist.cons_cons _ ?_ | refine List.Sublist.cons _ ?_)))) (by kernel_rfl) (by rfl) ?_ ?_ ?_ ?_ ?_ ?_ ?_
    ·kernel_rfl
    ·exact of_decide_eq_true (by kernel_rfl)
    ·(repeat refine all_cons ⟨_,by rfl,by rfl⟩ ?_);exact Jj
    ·kernel_rfl
    ·(repeat (refine all_cons ?_ ?_;rotate_left));exact Jj
     all_goals try exact Jq _ (by rfl)
     ·exact Ug _ _ _ _ _ _ _ (by rfl) (by rfl) Jh (fun ρ w kn hs=>Jy (kn _ _ (F.old (by rfl) rfl)) (hs.get 9 rfl))
     ·exact Ug _ _ _ _ _ _ _ (by rfl) (by rfl) Jh (fun ρ w kn hs=>Jy (kn _ _ (F.old (by rfl) rfl)) (hs.get 9 rfl))
     ·exact Ug _ _ _ _ _ _ _ (by rfl) (by rfl) Jh (fun ρ w kn hs=>Vr (kn _ _ (F.old (by rfl) rfl)) ((((hs.get 8 rfl)).cell 0).trans rfl))
     ·exact Ug _ _ _ _ _ _ _ (by rfl) (by rfl) Jh (fun ρ w kn hs=>Jc (kn _ _ (F.old (by rfl) rfl)))
     ·exact crS (fun ρ w kn hs=>Jc (kn _ _ (kc 6 49)))
     ·exact crS (fun ρ w kn hs=>Jk (kn _ _ (kc 7 43)) rfl)
     ·exact crS (fun ρ w kn hs=>Jk (kn _ _ (kc 7 43)) rfl)
    ·(repeat (refine all_cons ?_ ?_;rotate_left));exact Jj
     all_goals try exact sA
     ·exact fun _=>Jam _ _ _ _ _ _ _ _ (by rfl) (by rfl) (Nat.le_refl _) (fun ρ w=>Kd)
     ·exact fun _=>Jm _ 38 _ _ [.tmp 45,.tmp 46,.tmp 47] _ _ _ _ _ _ _ (by rfl) Try.func38 (by kernel_rfl) (by rfl) (by rfl) (Jh) (.cons (kc 1 45) (.cons (kc 2 46) (.cons (kc 3 47) .nil))) ((fun w=>apart_any P Q G H k (x%2000+1) hQ h1 (by omega) (by omega) w))
     ·exact fun _=>Jm _ 37 _ _ [.tmp 44,.tmp 48] _ _ _ _ _ _ _ (by rfl) Try.func37 (by kernel_rfl) (by rfl) (by rfl) (Jh) (.cons (kc 0 44) (.cons (kc 5 48) .nil)) ((sinv_none P Q G H _ hQ h1 (Xc h1 _) hgc))
    intro gs rs a w hgs hrs F HM HBW HR HO HT
    obtain rfl:=nl0 rs hrs
    obtain ⟨gi,rfl⟩:=nl1 gs hgs
    clear hrs hgs HR HBW HO
    clear HT
    refine Vh (i:=10) HM (by kernel_rfl) (by rfl) rfl rfl (k:=0) rfl (Ka (F.ev rfl) (F.ev rfl) (HM.get 0 rfl)) (M2:=((gi,24,ncs 0)::(gv,24,ncs (Ki Q (evZ (zs ps) ((Ki Q ((x%2000+1:Nat):Int):Nat):Int))))::(gx,24,ncs (Ki Q ((x%2000+1:Nat):Int)))::(gN,3,#[.int .i64 (k:Nat)])::(gG,26,gcs P Q G H)::(gd,27,#[v])::(ge,33,#[.int .i64 0])::(go,27,#[.slice none 0 0])::(gq,27,#[.slice pp m capp])::(gn,3,#[.int .i64 (k:Nat)])::(gr,26,gcs P Q G H)::R)) (rfl) (fun _ h=>h.subl (by first | exact List.Sublist.refl _ | (repeat (first | exact List.Sublist.refl _ | refine List.Sublist.cons_cons _ ?_ | refine List.Sublist.cons _ ?_)))) fun w HM=>?_
    refine Kq (i:=11) (d:=12) (x:=.tmp 51) (v:=.int .i64 7) F ((HM.subl (by first | exact List.Sublist.refl _ | (repeat (first | exact List.Sublist.refl _ | refine List.Sublist.cons_cons _ ?_ | refine List.Sublist.cons _ ?_))))) (by kernel_rfl) (by rfl) (by rfl) (F.ev rfl) fun a F=>?_
    refine Ui (by kernel_rfl) ?_ _
    repeat (first | refine Js ?_ | refine Jo ?_ | refine wpIn_seq ?_ | refine wpIn_block ?_ | refine wpIn_skip ?_)
    refine Vl (by rfl) (by rintro ⟨_,_,h⟩;exact h) ?_
    refine lxv (.int .i64 7) F (Jc (F.ev rfl)) fun a F=>?_
    refine lxv (.bool true) F (Ua (u:=.int .i64 7) (v:=.int .i64 0) (fun ρ hx hy=>by simp only [execOp,hx,hy];simp [go_sem]) (F.ev rfl) rfl) fun a F=>?_
    refine Jf ?_
    repeat (first | refine Js ?_ | refine Jo ?_ | refine wpIn_seq ?_ | refine wpIn_block ?_ | refine wpIn_skip ?_)
    refine wpIn_cond_true (F.ev rfl) ?_
    repeat (first | refine Js ?_ | refine Jo ?_ | refine wpIn_seq ?_ | refine wpIn_block ?_ | refine wpIn_skip ?_)
    refine Vl (by rfl) (by rintro ⟨_,_,h⟩;exact h) ?_
    refine lxv (.int .i64 7) F (Jc (F.ev rfl)) fun a F=>?_
    refine Ju F HM (Ja rfl _) rfl (k:=7) rfl (Xg (F.ev rfl) rfl (HM.get 7 rfl)) (M2:=((gi,24,ncs 0)::(gv,24,ncs (Ki Q (evZ (zs ps) ((Ki Q ((x%2000+1:Nat):Int):Nat):Int))))::(gx,24,ncs (Ki Q ((x%2000+1:Nat):Int)))::(gN,3,#[.int .i64 (k:Nat)])::(gG,26,gcs P Q G H)::(gd,27,#[v])::(ge,33,#[.int .i64 0])::(go,27,#[.slice none 0 0])::(gq,27,#[.slice pp m capp])::(gn,3,#[.int .i64 (k:Nat)])::(gr,26,gcs P Q G H)::R)) (rfl) fun w HM=>?_
    refine Ju F HM (Ja rfl _) rfl (k:=6) rfl (Vi (F.ev rfl) (F.ev rfl) (HM.get 6 rfl)) (M2:=((gi,24,ncs 0)::(gv,24,ncs (Ki Q (evZ (zs ps) ((Ki Q ((x%2000+1:Nat):Int):Nat):Int))))::(gx,24,ncs (Ki Q ((x%2000+1:Nat):Int)))::(gN,3,#[.int .i64 (k:Nat)])::(gG,26,gcs P Q G H)::(gd,27,#[v])::(ge,33,#[.int .i64 7])::(go,27,#[.slice none 0 0])::(gq,27,#[.slice pp m capp])::(gn,3,#[.int .i64 (k:Nat)])::(gr,26,gcs P Q G H)::R)) (rfl) fun w HM=>?_
    refine Jf ?_
    repeat (first | refine Js ?_ | refine Jo ?_ | refine wpIn_seq ?_ | refine wpIn_block ?_ | refine wpIn_skip ?_)
    refine wpIn_ret ?_
    repeat (first | refine Jv ?_ | refine Jp ?_)
    exact ⟨HM.oth.from _,rfl,7,_,_,hM.join (HM.drop 3),.inr ⟨rfl,hz,x,by simp,hgc⟩⟩
  ·replace hz:=Bool.eq_false_iff.2 hz
   repeat (first | refine Js ?_ | refine Jo ?_ | refine wpIn_seq ?_ | refine wpIn_block ?_ | refine wpIn_skip ?_)
   refine Vl (by rfl) (by rintro ⟨_,_,h⟩;exact h) ?_
   refine lxv (grp P Q G H) F (Jy (F.ev rfl) (HM.get 8 rfl)) fun a F=>?_
   refine lxv (.slice pp m capp) F (Jct (F.ev rfl) ((((HM.get 6 rfl)).cell 0).trans rfl)) fun a F=>?_
   refine lxv (num (Ki Q ((x%2000+1:Nat):Int))) F (Kg (F.ev rfl) (HM.get 0 rfl)) fun a F=>?_
   refine Jr F (Ja rfl _) rfl (by rfl) (Ji Try.func17 (by kernel_rfl) (by rfl) (.cons (F.ev rfl) (.cons (F.ev rfl) (.cons (F.ev rfl) .nil))) _) (Jfp P Q G H (Ki Q ((x%2000+1:Nat):Int)) m capp pp ps _ hQ (sof_256 hQ) (by rw [Jfq];exact hz) rq) fun a w z F=>?_
   replace HM:=HM.on z
   clear z
   refine lxv (.tuple #[num 0,.int .i64 1]) F (Jc (F.ev rfl)) fun a F=>?_
   refine lxv (num 0) F (Jk (F.ev rfl) rfl) fun a F=>?_
   refine lxv (.int .i64 1) F (Jk (F.ev rfl) rfl) fun a F=>?_
   refine Jn F HM (Ja rfl _) rfl (by rfl) (Kd) fun a w gv F HM=>?_
   refine Ju F HM (Ja rfl _) rfl (k:=0) rfl (Ka (F.ev rfl) (F.ev rfl) (HM.get 0 rfl)) (M2:=((gv,24,ncs 0)::(gx,24,ncs (Ki Q ((x%2000+1:Nat):Int)))::(gN,3,#[.int .i64 (k:Nat)])::(gG,26,gcs P Q G H)::(gd,27,#[v])::(ge,33,#[.int .i64 0])::(go,27,#[.slice none 0 0])::(gq,27,#[.slice pp m capp])::(gn,3,#[.int .i64 (k:Nat)])::(gr,26,gcs P Q G H)::R)) (rfl) fun w HM=>?_
   refine lxv (.int .i64 1) F (Jg (F.ev rfl)) fun a F=>?_
   refine Jf ?_
   repeat (first | refine Js ?_ | refine Jo ?_ | refine wpIn_seq ?_ | refine wpIn_block ?_ | refine wpIn_skip ?_)
   refine Vl (by rfl) (by rintro ⟨_,_,h⟩;exact h) ?_
   refine lxv (.int .i64 1) F (Jc (F.ev rfl)) fun a F=>?_
   refine lxv (.bool true) F (Ua (u:=.int .i64 1) (v:=.int .i64 0) (fun ρ hx hy=>by simp only [execOp,hx,hy];simp [go_sem]) (F.ev rfl) rfl) fun a F=>?_
   refine Jf ?_
   repeat (first | refine Js ?_ | refine Jo ?_ | refine wpIn_seq ?_ | refine wpIn_block ?_ | refine wpIn_skip ?_)
   refine wpIn_cond_true (F.ev rfl) ?_
   repeat (first | refine Js ?_ | refine Jo ?_ | refine wpIn_seq ?_ | refine wpIn_block ?_ | refine wpIn_skip ?_)
   refine Vl (by rfl) (by rintro ⟨_,_,h⟩;exact h) ?_
   refine lxv (.int .i64 1) F (Jc (F.ev rfl)) fun a F=>?_
   refine Ju F HM (Ja rfl _) rfl (k:=6) rfl (Xg (F.ev rfl) rfl (HM.get 6 rfl)) (M2:=((gv,24,ncs 0)::(gx,24,ncs (Ki Q ((x%2000+1:Nat):Int)))::(gN,3,#[.int .i64 (k:Nat)])::(gG,26,gcs P Q G H)::(gd,27,#[v])::(ge,33,#[.int .i64 0])::(go,27,#[.slice none 0 0])::(gq,27,#[.slice pp m capp])::(gn,3,#[.int .i64 (k:Nat)])::(gr,26,gcs P Q G H)::R)) (rfl) fun w HM=>?_
   refine Ju F HM (Ja rfl _) rfl (k:=5) rfl (Vi (F.ev rfl) (F.ev rfl) (HM.get 5 rfl)) (M2:=((gv,24,ncs 0)::(gx,24,ncs (Ki Q ((x%2000+1:Nat):Int)))::(gN,3,#[.int .i64 (k:Nat)])::(gG,26,gcs P Q G H)::(gd,27,#[v])::(ge,33,#[.int .i64 1])::(go,27,#[.slice none 0 0])::(gq,27,#[.slice pp m capp])::(gn,3,#[.int .i64 (k:Nat)])::(gr,26,gcs P Q G H)::R)) (rfl) fun w HM=>?_
   refine Jf ?_
   repeat (first | refine Js ?_ | refine Jo ?_ | refine wpIn_seq ?_ | refine wpIn_block ?_ | refine wpIn_skip ?_)
   refine wpIn_ret ?_
   repeat (first | refine Jv ?_ | refine Jp ?_)
   exact ⟨HM.oth.from _,rfl,1,_,_,hM.join (HM.drop 2),.inl ⟨rfl,hz⟩⟩
 case done=>
  rintro D ys W hD hys ⟨v,R,lv,hR,hpre,hM⟩ hK
  subst hys
  have F1:=F.sub [3,4,5,6,7,8]
  have F2:Fr { a with defers:={ target:=.collected D,args:=#[] }::a.defers } 67 [(3,.pointer (some ⟨gr,0,none⟩)),(4,.pointer (some ⟨gn,0,none⟩)),(5,.pointer (some ⟨gq,0,none⟩)),(6,.pointer (some ⟨go,0,none⟩)),(7,.pointer (some ⟨ge,0,none⟩)),(8,.pointer (some ⟨gd,0,none⟩))] [{ target:=.collected D,args:=#[] }]:=⟨F1.size,by simp [F1.defers],F1.get⟩
  generalize ({ a with defers:=_ }:Act)=a5 at F2 ⊢
  have HM:=hM.again
  replace F:=F2
  rw [rng_mod (by omega)] at lv
  refine Kgr ?_
  refine lxv v F (o_ldSV (F.ev rfl) ((((HM.get 2 rfl)).cell 0).trans rfl) lv.sl) fun a F=>?_
  refine Ju F HM (Ja rfl _) rfl (k:=4) rfl (o_storeSV (F.ev rfl) (F.ev rfl) lv.sl (HM.get 4 rfl)) (M2:=((gN,3,#[.int .i64 (k:Nat)])::(gG,26,gcs P Q G H)::(gd,27,#[v])::(ge,33,#[.int .i64 0])::(go,27,#[v])::(gq,27,#[.slice pp m capp])::(gn,3,#[.int .i64 (k:Nat)])::(gr,26,gcs P Q G H)::R)) (rfl) fun w HM=>?_
  refine Ju F HM (Ja rfl _) rfl (k:=3) rfl (Vi (F.ev rfl) rfl (HM.get 3 rfl)) (M2:=((gN,3,#[.int .i64 (k:Nat)])::(gG,26,gcs P Q G H)::(gd,27,#[v])::(ge,33,#[.int .i64 0])::(go,27,#[v])::(gq,27,#[.slice pp m capp])::(gn,3,#[.int .i64 (k:Nat)])::(gr,26,gcs P Q G H)::R)) (rfl) fun w HM=>?_
  refine Jf ?_
  refine Kgq ?_
  refine wp_ret ?_
  repeat (first | refine Jv ?_ | refine Jp ?_)
  have hKw:=HM.oth.same D _ hK rfl
  have HG:=(hM.join HM).grown (grownBy_putObj' w D (.deferred none)) (fun r e=>by cases e;exact ⟨Nat.le_trans hb3.size hD,_,hKw,rfl⟩)
  show LeavesInM Fence.wide 9 _ _ _ _ _ _ _
  rw [F.defers]
  refine ⟨by simp,.inl ⟨_,_,rfl,run_takeDeferred hKw,?_⟩⟩
  refine ⟨_,Jea F (s:=6) (t:=7) rfl rfl rfl (HG.get 4 rfl) (HG.get 3 rfl),.inr (.inr ⟨?_,_,rfl,v,rfl,HG.bel,lv.nr HG (fun x hx=>(by simp [hx]))⟩)⟩
  intro x hx
  have:=hpre x (List.mem_range.2 hx)
  rwa [Nat.mod_eq_of_lt (by omega)] at this
 case stop=>
  rintro D c pre W hD hpre h hK
  obtain ⟨rfl,E,v,R,hM,hE⟩:=h
  have F1:=F.sub [3,4,5,6,7,8]
  have F2:Fr { a with defers:={ target:=.collected D,args:=#[] }::a.defers } 67 [(3,.pointer (some ⟨gr,0,none⟩)),(4,.pointer (some ⟨gn,0,none⟩)),(5,.pointer (some ⟨gq,0,none⟩)),(6,.pointer (some ⟨go,0,none⟩)),(7,.pointer (some ⟨ge,0,none⟩)),(8,.pointer (some ⟨gd,0,none⟩))] [{ target:=.collected D,args:=#[] }]:=⟨F1.size,by simp [F1.defers],F1.get⟩
  generalize ({ a with defers:=_ }:Act)=a5 at F2 ⊢
  have HM:=hM.again
  replace F:=F2
  obtain ⟨w,hw⟩:∃ w,w=W:=⟨_,rfl⟩
  rw [← hw] at HM hM hK ⊢
  refine wpIn_ret ?_
  repeat (first | refine Jv ?_ | refine Jp ?_)
  have hKw:=HM.oth.same D _ hK rfl
  have HG:=(hM.join HM).grown (grownBy_putObj' w D (.deferred none)) (fun r e=>by cases e;exact ⟨Nat.le_trans hb3.size hD,_,hKw,rfl⟩)
  show LeavesInM Fence.wide 9 _ _ _ _ _ _ _
  rw [F.defers]
  refine ⟨by simp,.inl ⟨_,_,rfl,run_takeDeferred hKw,?_⟩⟩
  refine ⟨_,Jea F (s:=6) (t:=7) rfl rfl rfl (HG.get 4 rfl) (HG.get 3 rfl),?_⟩
  rcases hE with ⟨rfl,hz⟩ | ⟨rfl,hz,y,hy,hg⟩
  ·exact .inl ⟨hz,rfl,HG.bel⟩
  ·have hyk:=List.mem_range.1 (hpre.subset hy)
   rw [Nat.mod_eq_of_lt (by omega)] at hg
   exact .inr (.inl ⟨hz,⟨y,hyk,hg⟩,rfl,HG.bel⟩)

end Go.Proofs.Ytcbnmdkmfdjpiaa
