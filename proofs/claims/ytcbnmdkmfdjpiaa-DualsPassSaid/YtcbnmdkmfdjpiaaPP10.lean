import Derived.Deep.Cut
import Derived.Maps.AppendAt
import Derived.Test.YtcbnmdkmfdjpiaaPP3
import Derived.Test.YtcbnmdkmfdjpiaaPShort
namespace Go.Proofs.Ytcbnmdkmfdjpiaa
set_option maxRecDepth 100000
open Go.RowKit
set_option linter.unusedSimpArgs false
set_option linter.unusedVariables false
attribute [local go_sem ↓] Go.wp_at_zero Go.wp_at_succ

def setC (cs:Array Value) (i V:Nat):Array Value:=Jeh cs (0+i*4) [.int .u64 (wd V 0),.int .u64 (wd V 1),.int .u64 (wd V 2),.int .u64 (wd V 3)]
theorem Pf.setC {cs:Array Value} {xs:List Nat} (h:Pf cs xs) {i:Nat} (hi:i<xs.length) (V:Nat):Pf (setC cs i V) (xs.set i V):=h.set hi V
theorem RN.call {n0:Nat} {w0 w:World} {a:Option Addr} {n cap:Nat} {xs:List Nat} (h:RN n0 w0 a n cap xs) (hb:Below n0 w0 w) (hn:n0≤w.heap.size):RN w.heap.size w a n cap xs:=⟨h.1,(h.2.below hb).up hn⟩
theorem Jeq:∀ (ys:List Nat) (j:Nat) (u:Value),(flat ys)[j]? = some u→∃ i k,∃ h:i<ys.length,k<4∧j=i*4+k∧u=.int .u64 (wd ys[i] k)
 | [],j,u,h=>by simp [flat] at h
 | Y::ys,0,u,h=>⟨0,0,by simp,by decide,rfl,by simpa [flat] using h.symm⟩
 | Y::ys,1,u,h=>⟨0,1,by simp,by decide,rfl,by simpa [flat] using h.symm⟩
 | Y::ys,2,u,h=>⟨0,2,by simp,by decide,rfl,by simpa [flat] using h.symm⟩
 | Y::ys,3,u,h=>⟨0,3,by simp,by decide,rfl,by simpa [flat] using h.symm⟩
 | Y::ys,j+4,u,h=>by
  obtain ⟨i,k,hi,hk,e,hu⟩:=Jeq ys j u (by simpa [flat] using h)
  exact ⟨i+1,k,by simpa using hi,hk,by omega,by simpa using hu⟩
def LieAt (w:World) (g o:Nat) (ys:List Nat):Prop:=∀ i x,ys[i]? = some x→C4 w g (o+i*4) x
theorem LieAt.news {w:World} {g o:Nat} {ys:List Nat} (h:LieAt w g o ys):∀ j u,(flat ys)[j]? = some u→w.cell? ((⟨g,o,none⟩:Addr).add j)=some u:=fun j u hu=>by
 obtain ⟨i,k,hi,hk,rfl,rfl⟩:=Jeq ys j u hu
 rw [Addr.add_mid]
 obtain ⟨h0,h1,h2,h3⟩:=h i ys[i] (List.getElem?_eq_getElem hi)
 match k,hk with
 | 0,_=>exact h0
 | 1,_=>rw [← Nat.add_assoc];exact h1
 | 2,_=>rw [← Nat.add_assoc];exact h2
 | 3,_=>rw [← Nat.add_assoc];exact h3
theorem flat_cells (ys:List Nat):∀ u∈flat ys,u.oneCell'=true:=fun u hu=>by
 obtain ⟨j,hj,rfl⟩:=List.getElem_of_mem hu
 obtain ⟨i,k,_,_,_,e⟩:=Jeq ys j _ (List.getElem?_eq_getElem hj)
 rw [e];rfl
theorem run_appN {dst:Option Tmp} {ρ:Operand→Value} {w:World} {base m c g o:Nat} {v:Value} {xs ys:List Nat} {s x:Operand} {ty:TypeId} {pos:String} {after:Array Edge} {gd:Option (Nat × Bool)} (hv:NR base w v xs) (hs:ρ s=v) (hx:ρ x=.slice (some ⟨g,o,none⟩) m c) (hm:ys.length=m)
  (hl:LieAt w g o ys) (hn:xs.length+m≤2000) (hb:base≤w.heap.size) :
  ∃ v' w',(execOp ρ ⟨dst,.call { callee:=.builtin .append,args:=#[s,x],argTypes:=#[27,27] },ty,pos,after,gd⟩).run Try.prog w=.ok (.value v') w'∧NR base w' v' (xs++ys)∧w.grownBy w' v.ownBlock∧(v'=.slice none 0 0 ↔ v=.slice none 0 0∧m=0)∧(v'.ownBlock=v.ownBlock∨v'.ownBlock=some w.heap.size):=by
 subst hm
 obtain ⟨i0,hi,hz0,hz1,hz2⟩:=info_parts Try.infoNum
 obtain ⟨v',w',hr,h2,h3,h4,h5⟩:=run_append_own_at (P:=Try.prog) w base 27 ty 24 i0 _ 4 32 Try.underlying27 hi hz0 hz1 hz2 rfl (by decide) v xs.length (flat xs) hv ⟨g,o,none⟩ ys.length c (flat ys) (Jbc ys) hl.news (flat_cells ys) (by unfold maxLen;omega) (by omega) hb
 refine ⟨v',w',?_,?_,h3,h4,h5⟩
 ·unfold execOp
  simp only [resolve,invoke,builtin,Sem.run_bind,Sem.run_pure,Result.andThen_ok,List.map_toArray,List.map_cons,List.map_nil,hs,hx,hr]
 ·unfold NR
  rw [flat_app,List.length_append]
  exact h2
theorem NR.row {base:Nat} {w:World} {v:Value} {xs:List Nat} (h:NR base w v xs) (hx:xs≠[]):∃ g cap cur,v=.slice (some ⟨g,0,none⟩) xs.length cap∧base≤g∧At w g 24 cur∧xs.length≤cap∧cap≤9223372036854775807∧Pf cur xs:=by
 rcases h.2 with ⟨_,h0⟩ | ⟨g,cap,cur,rfl,hg,hc,h1,h2,h3,h4⟩
 ·exact absurd (List.length_eq_zero_iff.1 h0) hx
 ·refine ⟨g,cap,cur,rfl,hg,hc,h1,h2,by rw [h3];exact Nat.mul_le_mul_right _ h1,fun i hi k hk=>?_⟩
  have hf:=Jaj xs i hi k hk
  rw [← h4,List.getElem?_take] at hf
  split at hf
  ·simpa using hf
  ·cases hf
theorem NR.one {w:World} {g X:Nat} (h:At w g 24 (Xs X)):NR g w (.slice (some ⟨g,0,none⟩) 1 1) [X]:=⟨rfl,Or.inr ⟨g,1,_,rfl,Nat.le_refl _,h,Nat.le_refl _,by decide,rfl,rfl⟩⟩
theorem Pf.lie {w:World} {g:Nat} {cs:Array Value} {t:TypeId} {xs:List Nat} (h:Pf cs xs) (hat:At w g t cs):LieAt w g 0 xs:=fun i x hi=>h.c4 hat hi
def LR (R:List (Nat × TypeId × Array Value)) (v:Value) (xs:List Nat):Prop:=(v=.slice none 0 0∧xs=[])∨∃ g cap cur,v=.slice (some ⟨g,0,none⟩) xs.length cap∧(g,24,cur)∈R∧xs.length≤cap∧cap≤9223372036854775807∧cur.size=cap*4∧cur.toList.take (xs.length*4)=flat xs
theorem LR.nil (R:List (Nat × TypeId × Array Value)):LR R (.slice none 0 0) []:=Or.inl ⟨rfl,rfl⟩
theorem LR.nr {n0:Nat} {w0 w:World} {M R:List (Nat × TypeId × Array Value)} {v:Value} {xs:List Nat} (h:LR R v xs) (H:Mem n0 w0 w M) (hs:∀ x∈R,x∈M):NR n0 w v xs:=by
 rcases h with ⟨rfl,rfl⟩ | ⟨g,cap,cur,rfl,hm,h1,h2,h3,h4⟩
 ·exact NR.nil _ _
 ·exact ⟨Jbc xs,Or.inr ⟨g,cap,cur,rfl,H.own _ (hs _ hm),H.at_ _ (hs _ hm),h1,h2,h3,h4⟩⟩
theorem NR.lr {base:Nat} {w:World} {v:Value} {xs:List Nat} (h:NR base w v xs) (hx:xs≠[]):∃ g cap cur,v=.slice (some ⟨g,0,none⟩) xs.length cap∧base≤g∧At w g 24 cur∧xs.length≤cap∧cap≤9223372036854775807∧cur.size=cap*4∧cur.toList.take (xs.length*4)=flat xs:=by
 rcases h.2 with ⟨_,h0⟩ | ⟨g,cap,cur,rfl,hg,hc,h1,h2,h3,h4⟩
 ·exact absurd (List.length_eq_zero_iff.1 h0) hx
 ·exact ⟨g,cap,cur,rfl,hg,hc,h1,h2,h3,h4⟩
theorem LR.form {R:List (Nat × TypeId × Array Value)} {v:Value} {xs:List Nat} (h:LR R v xs):∃ a cap,v=.slice a xs.length cap:=by
 rcases h with ⟨rfl,rfl⟩ | ⟨g,cap,cur,rfl,_⟩
 ·exact ⟨none,0,rfl⟩
 ·exact ⟨_,cap,rfl⟩
theorem LR.rn {n0:Nat} {w0 w:World} {M R:List (Nat × TypeId × Array Value)} {a:Option Addr} {n cap:Nat} {xs:List Nat} (h:LR R (.slice a n cap) xs) (H:Mem n0 w0 w M) (hs:∀ x∈R,x∈M) (hx:∀ x∈xs,x<2^256):RN w.heap.size w a n cap xs:=by
 have hn:=h.nr H hs
 obtain ⟨a',cap',e⟩:=h.form
 cases e
 by_cases h0:xs=[]
 ·subst h0
  rcases h with ⟨e,_⟩ | ⟨g,cap2,cur,e,hm,h1,h2,h3,h4⟩
  ·cases e;exact RS.nil w
  ·cases e;exact ⟨rfl,Nat.zero_le _,h2,hx,Or.inl rfl⟩
 ·obtain ⟨g,cap2,cur,e,hg,hat,h1,h2,hp⟩:=hn.row h0
  cases e
  exact hp.rsA hat rfl h1 h2 hx
def Dj (u v:Value):Prop:=u.ownBlock=none∨v.ownBlock=none∨u.ownBlock≠v.ownBlock
theorem Dj.symm {u v:Value} (h:Dj u v):Dj v u:=by
 rcases h with h | h | h
 ·exact Or.inr (Or.inl h)
 ·exact Or.inl h
 ·exact Or.inr (Or.inr fun e=>h e.symm)
theorem Jgg {n0:Nat} {w0 w:World} {A R:List (Nat × TypeId × Array Value)} {dst:Option Tmp} {ρ:Operand→Value} {v:Value} {xs ys:List Nat} {g o m c:Nat} {s x:Operand} {ty:TypeId} {pos:String} {after:Array Edge} {gd:Option (Nat × Bool)} (H:Mem n0 w0 w (A++R)) (l:LR R v xs) (hs:ρ s=v) (hx:ρ x=.slice (some ⟨g,o,none⟩) m c) (hm:ys.length=m) (hy:LieAt w g o ys) (hne:xs++ys≠[]) (hb:xs.length+m≤2000) :
  ∃ v' w',(execOp ρ ⟨dst,.call { callee:=.builtin .append,args:=#[s,x],argTypes:=#[27,27] },ty,pos,after,gd⟩).run Try.prog w=.ok (.value v') w'∧∃ R',Mem n0 w0 w' (A++R')∧LR R' v' (xs++ys)∧∀ v1 zs,LR R v1 zs→Dj v v1→LR R' v1 zs∧Dj v' v1:=by
 have hnr:=l.nr H (fun x hx=>List.mem_append_right _ hx)
 have hn0:=Nat.le_trans H.le H.bel.size
 obtain ⟨v',w',hrun,hnr',hgr,hnil,ho⟩:=run_appN (dst:=dst) (ty:=ty) (pos:=pos) (after:=after) (gd:=gd) hnr hs hx hm hy hb hn0
 obtain ⟨g',cap',cur',rfl,hg',hat',k1,k2,k3,k4⟩:=hnr'.lr hne
 have ho':v.ownBlock=some g'∨g'=w.heap.size:=by
  rcases ho with e | e
  ·exact Or.inl e.symm
  ·exact Or.inr (Option.some.inj e)
 have hfar:∀ y∈A++R,v.ownBlock≠some y.1→At w' y.1 y.2.1 y.2.2:=fun y hy hne=>(hgr.block y.1 (H.lt y hy) (fun e=>hne e.symm)).trans (H.at_ y hy)
 have hR1:∀ y∈A,v.ownBlock≠some y.1:=fun y hy e=>by
  rcases l with ⟨rfl,_⟩ | ⟨g1,cap1,cur1,rfl,hm1,_⟩
  ·cases e
  ·have e1:g1=y.1:=by simpa [Value.ownBlock] using e
   have hnd:=H.nd
   rw [List.map_append,List.nodup_append] at hnd
   exact hnd.2.2 y.1 (List.mem_map_of_mem hy) g1 (List.mem_map_of_mem (f:=(·.1)) hm1) e1.symm
 refine ⟨_,w',hrun,(g',24,cur')::R.filter (fun y=>decide (v.ownBlock≠some y.1)),?_,Or.inr ⟨g',cap',cur',rfl,List.mem_cons_self,k1,k2,k3,k4⟩,?_⟩
 ·have hsub:∀ y,y∈A++R.filter (fun y=>decide (v.ownBlock≠some y.1))→y∈A++R∧v.ownBlock≠some y.1:=fun y hy=>by
   rcases List.mem_append.1 hy with hy | hy
   ·exact ⟨List.mem_append_left _ hy,hR1 y hy⟩
   ·obtain ⟨h1,h2⟩:=List.mem_filter.1 hy
    exact ⟨List.mem_append_right _ h1,of_decide_eq_true h2⟩
  have hperm:(A++(g',24,cur')::R.filter (fun y=>decide (v.ownBlock≠some y.1))).Perm ((g',24,cur')::(A++R.filter (fun y=>decide (v.ownBlock≠some y.1)))):=List.perm_middle
  have hmem:∀ y,y∈A++(g',24,cur')::R.filter (fun y=>decide (v.ownBlock≠some y.1))→y=(g',24,cur')∨(y∈A++R∧v.ownBlock≠some y.1):=fun y hy=>by
   rcases List.mem_cons.1 (hperm.mem_iff.1 hy) with e | hy
   ·exact Or.inl e
   ·exact Or.inr (hsub y hy)
  refine ⟨H.le,H.bel.grown hgr hn0 (fun r e=>(hnr.lt r e).1),H.oth.trans (KeepsOthers.of_grownBy hgr fun j o hj ho=>?_),fun y hy=>?_,fun y hy=>?_,?_⟩
  ·rcases l with ⟨rfl,_⟩ | ⟨g1,cap1,cur1,rfl,hm1,_⟩
   ·cases hj
   ·have e1:g1=j:=by simpa [Value.ownBlock] using hj
    subst e1
    have:=H.at_ _ (List.mem_append_right A hm1)
    rw [show w.heap[g1]? = _ from this] at ho
    cases ho;rfl
  ·rcases hmem y hy with rfl | ⟨h1,h2⟩
   ·exact hat'
   ·exact hfar y h1 h2
  ·rcases hmem y hy with rfl | ⟨h1,_⟩
   ·exact hg'
   ·exact H.own y h1
  ·refine ((hperm.map _).nodup_iff).2 ?_
   rw [List.map_cons,List.nodup_cons]
   refine ⟨fun h=>?_,?_⟩
   ·obtain ⟨y,hy,e⟩:=List.mem_map.1 h
    obtain ⟨h1,h2⟩:=hsub y hy
    rcases ho' with e2 | e2
    ·rw [e] at h2;exact h2 e2
    ·have:=H.lt y h1;omega
   ·have h1:(A++R.filter (fun y=>decide (v.ownBlock≠some y.1))).Sublist (A++R):=(List.Sublist.refl A).append List.filter_sublist
    exact (h1.map _).nodup H.nd
 ·intro v1 zs l1 d
  have hd:Dj (.slice (some ⟨g',0,none⟩) (xs++ys).length cap') v1:=by
   rcases l1 with ⟨rfl,_⟩ | ⟨g1,cap1,cur1,rfl,hm1,_⟩
   ·exact Or.inr (Or.inl rfl)
   ·refine Or.inr (Or.inr fun e=>?_)
    have e1:g'=g1:=by simpa [Value.ownBlock] using e
    rcases ho' with e2 | e2
    ·rcases d with d | d | d
     ·rw [d] at e2;cases e2
     ·cases d
     ·exact d (by rw [e2,e1];rfl)
    ·have:=H.lt _ (List.mem_append_right A hm1)
     have h3:g1<w.heap.size:=this
     omega
  refine ⟨?_,hd⟩
  rcases l1 with ⟨rfl,h0⟩ | ⟨g1,cap1,cur1,rfl,hm1,rest⟩
  ·exact Or.inl ⟨rfl,h0⟩
  ·refine Or.inr ⟨g1,cap1,cur1,rfl,List.mem_cons_of_mem _ (List.mem_filter.2 ⟨hm1,decide_eq_true fun e=>?_⟩),rest⟩
   rcases d with d | d | d
   ·rw [d] at e;cases e
   ·cases d
   ·exact d (by rw [e];rfl)
set_option maxRecDepth 100000 in
set_option maxHeartbeats 800000 in
theorem same_n (n cap m capb:Nat) (pa pb:Option Addr) (xs ys:List Nat) (w0:World) (r:RN w0.heap.size w0 pa n cap xs) (r2:RN w0.heap.size w0 pb m capb ys) (hmn:n≠m):Calls Try.prog 13 #[.slice pa n cap,.slice pb m capb] w0 fun e w'=>e=.returned (.bool false)∧Below w0.heap.size w0 w':=by
 refine Kc (args:=[.slice pa n cap,.slice pb m capb]) Try.func13 rfl Try.ntmps13 (by rfl) fun a F HM=>?_
 refine Kgr ?_
 refine lxv (.bool false) F (Jg rfl) fun a F=>?_
 refine Jf ?_
 refine Kgr ?_
 refine lxv (.slice pa n cap) F (Jc (F.ev rfl)) fun a F=>?_
 refine lxv (.int .i64 (n:Nat)) F (Ur (F.ev rfl)) fun a F=>?_
 refine lxv (.slice pb m capb) F (Jc (F.ev rfl)) fun a F=>?_
 refine lxv (.int .i64 (m:Nat)) F (Ur (F.ev rfl)) fun a F=>?_
 refine lxv (.bool true) F (Jfi (b:=false) (decide_eq_false (by omega)) (F.ev rfl) (F.ev rfl) rfl) fun a F=>?_
 refine Jf ?_
 refine Kgq ?_
 refine wp_cond_true (F.ev rfl) ?_
 refine Kgr ?_
 refine lxv (.bool false) F (Jg rfl) fun a F=>?_
 refine Jf ?_
 refine Kgq ?_
 refine wp_ret ?_
 repeat (first | refine Jv ?_ | refine Jp ?_)
 exact Kv F HM (Kt F rfl (s:=4) rfl)

set_option maxRecDepth 100000 in
set_option maxHeartbeats 800000 in
theorem same_e (n cap m capb:Nat) (pa pb:Option Addr) (xs ys:List Nat) (w0:World) (r:RN w0.heap.size w0 pa n cap xs) (r2:RN w0.heap.size w0 pb m capb ys) (hmn:n=m):Calls Try.prog 13 #[.slice pa n cap,.slice pb m capb] w0 fun e w'=>e=.returned (.bool (decide (xs=ys)))∧Below w0.heap.size w0 w':=by
 refine Kc (args:=[.slice pa n cap,.slice pb m capb]) Try.func13 rfl Try.ntmps13 (by rfl) fun a F HM=>?_
 refine Kgr ?_
 refine lxv (.bool false) F (Jg rfl) fun a F=>?_
 refine Jf ?_
 refine Kgr ?_
 refine lxv (.slice pa n cap) F (Jc (F.ev rfl)) fun a F=>?_
 refine lxv (.int .i64 (n:Nat)) F (Ur (F.ev rfl)) fun a F=>?_
 refine lxv (.slice pb m capb) F (Jc (F.ev rfl)) fun a F=>?_
 refine lxv (.int .i64 (m:Nat)) F (Ur (F.ev rfl)) fun a F=>?_
 refine lxv (.bool false) F (Jfi (b:=true) (decide_eq_true (by omega)) (F.ev rfl) (F.ev rfl) rfl) fun a F=>?_
 refine Jf ?_
 refine Kgq ?_
 refine wp_cond_false (F.ev rfl) ?_
 refine Kgr ?_
 refine lxv (.int .i64 0) F (Jg rfl) fun a F=>?_
 refine Jf ?_
 refine Kgq ?_
 refine wp_loop (fun a w=>∃ i:Nat,i≤n∧(∀ j,j<i→xs[j]? = ys[j]?)∧Fr a 26 [(5,.int .i64 (i:Nat)),(0,.slice pa n cap),(1,.slice pb m capb)] []∧Mem w0.heap.size w0 w []) (fun a _=>n-(intOf (a.tmps.getD 5 undef)).toNat) ⟨0,Nat.zero_le _,fun j h=>absurd h (Nat.not_lt_zero _),F.sub [5,0,1],HM⟩ ?_
 clear F HM
 rintro aS wS ⟨i,hi,hsm,FS,HM⟩
 have F:=FS
 by_cases hlt:i<n
 ·refine Kgr ?_
  refine lxv (.int .i64 (i:Nat)) F (Jc (F.ev rfl)) fun a F=>?_
  refine lxv (.slice pa n cap) F (Jc (F.ev rfl)) fun a F=>?_
  refine lxv (.int .i64 (n:Nat)) F (Ur (F.ev rfl)) fun a F=>?_
  refine lxv (.bool true) F (Ua (u:=.int .i64 (i:Nat)) (v:=.int .i64 (n:Nat)) (fun ρ hx hy=>by simp only [execOp,hx,hy];simp [go_sem];omega) (F.ev rfl) (F.ev rfl)) fun a F=>?_
  refine Jf ?_
  refine Kgq ?_
  refine wp_cond_true (F.ev rfl) ?_
  have hltm:i<m:=by omega
  have hwr:=r.room hlt
  obtain ⟨gl,ol,hpa,hil,hxb,hc⟩:=r.get hlt
  obtain ⟨gv,ov,hpb,hiv,hyb,hcv⟩:=r2.get hltm
  have hgx:xs[i]? = some xs[i]:=List.getElem?_eq_getElem hil
  have hgy:ys[i]? = some ys[i]:=List.getElem?_eq_getElem hiv
  generalize xs[i]=x at *
  generalize ys[i]=y at *
  rcases hxy:decide (x=y) with _ | _
  ·refine Kgq ?_
   refine Ks (S:=fun w'=>Mem _ _ w' []) HM (fun _ h=>h) (by kernel_rfl) fun w HM HBW=>?_
   clear HBW
   try simp only [List.append_eq,List.cons_append,List.nil_append]
   refine Kw [⟨0,17,[],.val (.slice pa n cap),true⟩,
   ⟨1,18,[0],.val (.int .i64 (i:Nat)),true⟩,
   ⟨2,19,[0,1],.val (.pointer (some ⟨gl,ol+i*4,none⟩)),true⟩,
   ⟨3,20,[2],.val (num x),true⟩,
   ⟨4,21,[3],.val (.slice pb m capb),true⟩,
   ⟨5,22,[4],.val (.int .i64 (i:Nat)),true⟩,
   ⟨6,23,[4,5],.val (.pointer (some ⟨gv,ov+i*4,none⟩)),true⟩,
   ⟨7,24,[6],.val (num y),true⟩,
   ⟨8,25,[3,7],.val (.bool true),true⟩] 0 _ F HM (fun _ h=>h.subl (by first | exact List.Sublist.refl _ | (repeat (first | exact List.Sublist.refl _ | refine List.Sublist.cons_cons _ ?_ | refine List.Sublist.cons _ ?_)))) (by kernel_rfl) (by rfl) ?_ ?_ ?_ ?_ ?_ ?_ ?_
   ·kernel_rfl
   ·exact of_decide_eq_true (by kernel_rfl)
   ·(repeat refine all_cons ⟨_,by rfl,by rfl⟩ ?_);exact Jj
   ·kernel_rfl
   ·(repeat (refine all_cons ?_ ?_;rotate_left));exact Jj
    ·exact Ug _ _ _ _ _ _ _ (by rfl) (by rfl) Jh (fun ρ w kn hs=>Jc (kn _ _ (F.old (by rfl) rfl)))
    ·exact Ug _ _ _ _ _ _ _ (by rfl) (by rfl) Jh (fun ρ w kn hs=>Jc (kn _ _ (F.old (by rfl) rfl)))
    ·exact Ug _ _ _ _ _ _ _ (by rfl) (by rfl) Jh (fun ρ w kn hs=>Jay hlt (by rw [← hpa];exact (kn _ _ (kc 0 17))) (kn _ _ (kc 1 18)))
    ·exact crS (fun ρ w kn hs=>Xx (kn _ _ (kc 2 19)) (hc _ hs.bel))
    ·exact Ug _ _ _ _ _ _ _ (by rfl) (by rfl) Jh (fun ρ w kn hs=>Jc (kn _ _ (F.old (by rfl) rfl)))
    ·exact Ug _ _ _ _ _ _ _ (by rfl) (by rfl) Jh (fun ρ w kn hs=>Jc (kn _ _ (F.old (by rfl) rfl)))
    ·exact Ug _ _ _ _ _ _ _ (by rfl) (by rfl) Jh (fun ρ w kn hs=>Jay hltm (by rw [← hpb];exact (kn _ _ (kc 4 21))) (kn _ _ (kc 5 22)))
    ·exact crS (fun ρ w kn hs=>Xx (kn _ _ (kc 6 23)) (hcv _ hs.bel))
    ·exact crS (fun ρ w kn hs=>Jax hxb hyb hxy (kn _ _ (kc 3 20)) (kn _ _ (kc 7 24)))
   ·(repeat (refine all_cons ?_ ?_;rotate_left));exact Jj
    all_goals try exact sA
   intro gs rs a w hgs hrs F HM HBW HR HO HT
   obtain rfl:=nl0 rs hrs
   obtain rfl:=nl0 gs hgs
   clear hrs hgs HR HBW HO
   clear HT
   refine Ui (by kernel_rfl) ?_ _
   refine Kgq ?_
   refine wp_cond_true (F.ev rfl) ?_
   refine Kgr ?_
   refine lxv (.bool false) F (Jg rfl) fun a F=>?_
   refine Jf ?_
   have hV:decide (xs=ys)=false:=decide_eq_false fun e=>by rw [e,hgy] at hgx;exact (of_decide_eq_false hxy) (Option.some.inj hgx).symm
   rw [hV]
   refine Kgq ?_
   refine wp_ret ?_
   repeat (first | refine Jv ?_ | refine Jp ?_)
   exact Kv F HM (Kt F rfl (s:=4) rfl)
  ·refine Kgq ?_
   refine Ks (S:=fun w'=>Mem _ _ w' []) HM (fun _ h=>h) (by kernel_rfl) fun w HM HBW=>?_
   clear HBW
   try simp only [List.append_eq,List.cons_append,List.nil_append]
   refine Kw [⟨0,17,[],.val (.slice pa n cap),true⟩,
   ⟨1,18,[0],.val (.int .i64 (i:Nat)),true⟩,
   ⟨2,19,[0,1],.val (.pointer (some ⟨gl,ol+i*4,none⟩)),true⟩,
   ⟨3,20,[2],.val (num x),true⟩,
   ⟨4,21,[3],.val (.slice pb m capb),true⟩,
   ⟨5,22,[4],.val (.int .i64 (i:Nat)),true⟩,
   ⟨6,23,[4,5],.val (.pointer (some ⟨gv,ov+i*4,none⟩)),true⟩,
   ⟨7,24,[6],.val (num y),true⟩,
   ⟨8,25,[3,7],.val (.bool false),true⟩] 0 _ F HM (fun _ h=>h.subl (by first | exact List.Sublist.refl _ | (repeat (first | exact List.Sublist.refl _ | refine List.Sublist.cons_cons _ ?_ | refine List.Sublist.cons _ ?_)))) (by kernel_rfl) (by rfl) ?_ ?_ ?_ ?_ ?_ ?_ ?_
   ·kernel_rfl
   ·exact of_decide_eq_true (by kernel_rfl)
   ·(repeat refine all_cons ⟨_,by rfl,by rfl⟩ ?_);exact Jj
   ·kernel_rfl
   ·(repeat (refine all_cons ?_ ?_;rotate_left));exact Jj
    ·exact Ug _ _ _ _ _ _ _ (by rfl) (by rfl) Jh (fun ρ w kn hs=>Jc (kn _ _ (F.old (by rfl) rfl)))
    ·exact Ug _ _ _ _ _ _ _ (by rfl) (by rfl) Jh (fun ρ w kn hs=>Jc (kn _ _ (F.old (by rfl) rfl)))
    ·exact Ug _ _ _ _ _ _ _ (by rfl) (by rfl) Jh (fun ρ w kn hs=>Jay hlt (by rw [← hpa];exact (kn _ _ (kc 0 17))) (kn _ _ (kc 1 18)))
    ·exact crS (fun ρ w kn hs=>Xx (kn _ _ (kc 2 19)) (hc _ hs.bel))
    ·exact Ug _ _ _ _ _ _ _ (by rfl) (by rfl) Jh (fun ρ w kn hs=>Jc (kn _ _ (F.old (by rfl) rfl)))
    ·exact Ug _ _ _ _ _ _ _ (by rfl) (by rfl) Jh (fun ρ w kn hs=>Jc (kn _ _ (F.old (by rfl) rfl)))
    ·exact Ug _ _ _ _ _ _ _ (by rfl) (by rfl) Jh (fun ρ w kn hs=>Jay hltm (by rw [← hpb];exact (kn _ _ (kc 4 21))) (kn _ _ (kc 5 22)))
    ·exact crS (fun ρ w kn hs=>Xx (kn _ _ (kc 6 23)) (hcv _ hs.bel))
    ·exact crS (fun ρ w kn hs=>Jax hxb hyb hxy (kn _ _ (kc 3 20)) (kn _ _ (kc 7 24)))
   ·(repeat (refine all_cons ?_ ?_;rotate_left));exact Jj
    all_goals try exact sA
   intro gs rs a w hgs hrs F HM HBW HR HO HT
   obtain rfl:=nl0 rs hrs
   obtain rfl:=nl0 gs hgs
   clear hrs hgs HR HBW HO
   clear HT
   refine Ui (by kernel_rfl) ?_ _
   refine Kgq ?_
   refine wp_cond_false (F.ev rfl) ?_
   refine Kgr ?_
   refine lxv (.int .i64 (i:Nat)) F (Jc (F.ev rfl)) fun a F=>?_
   refine lxv (.int .i64 ((i+1:Nat):Int)) F (Ua (u:=.int .i64 (i:Nat)) (v:=.int .i64 1) (fun ρ hx hy=>by simp only [execOp,hx,hy];simp [go_sem,hwr]) (F.ev rfl) rfl) fun a F=>?_
   refine lxv (.int .i64 ((i+1:Nat):Int)) F (Jg (F.ev rfl)) fun a F=>?_
   refine Jf ?_
   refine Js ?_
   refine ⟨⟨i+1,by omega,fun j hj=>?_,F.sub [5,0,1],HM⟩,?_⟩
   ·by_cases e:j=i
    ·subst e;rw [hgx,hgy,of_decide_eq_true hxy]
    ·exact hsm j (by omega)
   ·show n-(intOf (a.tmps.getD 5 undef)).toNat<n-(intOf (aS.tmps.getD 5 undef)).toNat
    rw [F.get 5 _ rfl,FS.get 5 _ rfl]
    show n-((i+1:Nat):Int).toNat<n-((i:Nat):Int).toNat
    omega
 ·refine Kgr ?_
  refine lxv (.int .i64 (i:Nat)) F (Jc (F.ev rfl)) fun a F=>?_
  refine lxv (.slice pa n cap) F (Jc (F.ev rfl)) fun a F=>?_
  refine lxv (.int .i64 (n:Nat)) F (Ur (F.ev rfl)) fun a F=>?_
  refine lxv (.bool false) F (Ua (u:=.int .i64 (i:Nat)) (v:=.int .i64 (n:Nat)) (fun ρ hx hy=>by simp only [execOp,hx,hy];simp [go_sem];omega) (F.ev rfl) (F.ev rfl)) fun a F=>?_
  refine Jf ?_
  refine Kgq ?_
  refine wp_cond_false (F.ev rfl) ?_
  refine Kgq ?_
  refine wp_exit ?_
  repeat (first | refine Vu ?_ | refine Vf ?_)
  refine Kgr ?_
  refine lxv (.bool true) F (Jg rfl) fun a F=>?_
  refine Jf ?_
  have hV:decide (xs=ys)=true:=decide_eq_true (List.ext_getElem? fun j=>by
   by_cases hj:j<i
   ·exact hsm j hj
   ·rw [List.getElem?_eq_none (by have:=r.1;omega),List.getElem?_eq_none (by have:=r2.1;omega)])
  rw [hV]
  refine Kgq ?_
  refine wp_ret ?_
  repeat (first | refine Jv ?_ | refine Jp ?_)
  exact Kv F HM (Kt F rfl (s:=4) rfl)

theorem sameL_any (n cap m capb:Nat) (pa pb:Option Addr) (xs ys:List Nat) (w0:World) (r:RN w0.heap.size w0 pa n cap xs) (r2:RN w0.heap.size w0 pb m capb ys):Calls Try.prog 13 #[.slice pa n cap,.slice pb m capb] w0 fun e w'=>e=.returned (.bool (decide (xs=ys)))∧Below w0.heap.size w0 w':=by
 by_cases h:n=m
 ·exact same_e n cap m capb pa pb xs ys w0 r r2 h
 ·rw [decide_eq_false (show ¬ xs=ys from fun e=>h (by rw [← r.1,← r2.1,e]))]
  exact same_n n cap m capb pa pb xs ys w0 r r2 h
def us (xs:List Nat):Array Value:=(xs.map fun x=>Value.int .u64 (x:Nat)).toArray
section
variable {x y:Operand} {dst:Option Tmp} {ty:TypeId} {pos:String} {after:Array Edge} {guard:Option (Nat × Bool)} {ρ:Operand→Value} {w:World} {g o:Nat}
theorem o_idxU {i l cap:Nat} (hi:i<l) (hx:ρ x=.slice (some ⟨g,o,none⟩) l cap) (hy:ρ y=.int .i64 (i:Nat)):(execOp ρ ⟨dst,.indexAddr 69 x y,ty,pos,after,guard⟩).run Try.prog w=.ok (.value (.pointer (some ⟨g,o+i,none⟩))) w:=by
 have h1:(i:Int)<(l:Int):=by omega
 simp [execOp,hx,hy,go_sem,h1]
theorem o_lenU {a:Option Addr} {l cap:Nat} (hx:ρ x=.slice a l cap):(execOp ρ ⟨dst,.call ⟨.builtin .len,#[x],#[69]⟩,ty,pos,after,guard⟩).run Try.prog w=.ok (.value (.int .i64 (l:Nat))) w:=by
 simp [execOp,hx,go_sem]
theorem o_loadU {u:Nat} (hx:ρ x=.pointer (some ⟨g,o,none⟩)) (h:w.cell? ⟨g,o,none⟩=some (.int .u64 (u:Nat))):(execOp ρ ⟨dst,.load 22 x,ty,pos,after,guard⟩).run Try.prog w=.ok (.value (.int .u64 (u:Nat))) w:=by
 simp [execOp,hx,go_sem,h]
theorem o_buildX {X:Nat} (hX:X<18446744073709551616) (hx:ρ x=.int .u64 (X:Nat)):(execOp ρ ⟨dst,.build 24 #[(0,x)],ty,pos,after,guard⟩).run Try.prog w=.ok (.value (num X)) w:=by
 have h0:wd X 0=X:=by unfold wd;rw [Nat.pow_zero,Nat.div_one,Nat.mod_eq_of_lt hX]
 have hk:∀ k,wd X (k+1)=0:=fun k=>by unfold wd;rw [Nat.div_eq_of_lt (Nat.lt_of_lt_of_le hX (by rw [Nat.pow_succ];exact Nat.le_mul_of_pos_left _ (Nat.pow_pos (by decide))))]
 have h1:=hk 0;have h2:=hk 1;have h3:=hk 2
 simp [execOp,hx,go_sem,h0,h1,h2,h3]
end
abbrev qOf (n:Nat) (xs:List Nat):Nat→Nat→World→Prop:=fun g c w=>RN w.heap.size w (some ⟨g,0,none⟩) n c xs
theorem Vx (n:Nat) (xs:List Nat):∀ g c w w',qOf n xs g c w→Below w.heap.size w w'→qOf n xs g c w':=fun _ _ _ _ h hb=>RN.call h hb hb.size
end Go.Proofs.Ytcbnmdkmfdjpiaa
