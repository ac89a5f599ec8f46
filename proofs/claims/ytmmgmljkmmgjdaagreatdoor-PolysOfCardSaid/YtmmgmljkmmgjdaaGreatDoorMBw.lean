import Derived.Deep.Cut
import Derived.Laws.OwnMore
import Derived.ArgAppend
import Derived.Test.YtmmgmljkmmgjdaaGreatDoorMP6
import Derived.Test.YtmmgmljkmmgjdaaGreatDoorMTree
namespace Go.Proofs.YtmmgmljkmmgjdaaGreatDoor
set_option maxRecDepth 100000
open Go.RowKit
set_option linter.unusedSimpArgs false
set_option linter.unusedVariables false
attribute [local go_sem ↓] Go.wp_at_zero Go.wp_at_succ

def LR (R:List (Nat × TypeId × Array Value)) (v:Value) (xs:List Nat):Prop:=(v=.slice none 0 0∧xs=[])∨∃ g cap cur,v=.slice (some ⟨g,0,none⟩) xs.length cap∧(g,24,cur)∈R∧xs.length≤cap∧cap≤9223372036854775807∧cur.size=cap*4∧cur.toList.take (xs.length*4)=flat xs
theorem LR.nil (R:List (Nat × TypeId × Array Value)):LR R (.slice none 0 0) []:=Or.inl ⟨rfl,rfl⟩
theorem LR.nr {n0:Nat} {w0 w:World} {M R:List (Nat × TypeId × Array Value)} {v:Value} {xs:List Nat} (h:LR R v xs) (H:Mem n0 w0 w M) (hs:∀ x∈R,x∈M):NR n0 w v xs:=by
 rcases h with ⟨rfl,rfl⟩ | ⟨g,cap,cur,rfl,hm,h1,h2,h3,h4⟩
 ·exact NR.nil _ _
 ·exact ⟨Vy xs,Or.inr ⟨g,cap,cur,rfl,H.own _ (hs _ hm),H.at_ _ (hs _ hm),h1,h2,h3,h4⟩⟩
theorem NR.lr {base:Nat} {w:World} {v:Value} {xs:List Nat} (h:NR base w v xs) (hx:xs≠[]):∃ g cap cur,v=.slice (some ⟨g,0,none⟩) xs.length cap∧base≤g∧At w g 24 cur∧xs.length≤cap∧cap≤9223372036854775807∧cur.size=cap*4∧cur.toList.take (xs.length*4)=flat xs:=by
 rcases h.2 with ⟨_,h0⟩ | ⟨g,cap,cur,rfl,hg,hc,h1,h2,h3,h4⟩
 ·exact absurd (List.length_eq_zero_iff.1 h0) hx
 ·exact ⟨g,cap,cur,rfl,hg,hc,h1,h2,h3,h4⟩
theorem LR.form {R:List (Nat × TypeId × Array Value)} {v:Value} {xs:List Nat} (h:LR R v xs):∃ a cap,v=.slice a xs.length cap:=by
 rcases h with ⟨rfl,rfl⟩ | ⟨g,cap,cur,rfl,_⟩
 ·exact ⟨none,0,rfl⟩
 ·exact ⟨_,cap,rfl⟩
theorem LR.rn {n0:Nat} {w0 w:World} {M R:List (Nat × TypeId × Array Value)} {a:Option Addr} {n cap:Nat} {xs:List Nat} (h:LR R (.slice a n cap) xs) (H:Mem n0 w0 w M) (hs:∀ x∈R,x∈M) (hx:∀ x∈xs,x<2^256):RN w.heap.size w a n cap xs:=by
 have hn:=h.nr H hs
 obtain ⟨a',cap',e⟩:=h.form
 cases e
 by_cases h0:xs=[]
 ·subst h0
  rcases h with ⟨e,_⟩ | ⟨g,cap2,cur,e,hm,h1,h2,h3,h4⟩
  ·cases e;exact RS.nil w
  ·cases e;exact ⟨rfl,Nat.zero_le _,h2,hx,Or.inl rfl⟩
 ·obtain ⟨g,cap2,cur,e,hg,hat,h1,h2,hp⟩:=hn.row h0
  cases e
  exact hp.rsA hat rfl h1 h2 hx
def Dj (u v:Value):Prop:=u.ownBlock=none∨v.ownBlock=none∨u.ownBlock≠v.ownBlock
theorem Dj.symm {u v:Value} (h:Dj u v):Dj v u:=by
 rcases h with h | h | h
 ·exact Or.inr (Or.inl h)
 ·exact Or.inl h
 ·exact Or.inr (Or.inr fun e=>h e.symm)
theorem appR {n0:Nat} {w0 w:World} {A R:List (Nat × TypeId × Array Value)} {dst:Option Tmp} {ρ:Operand→Value} {v:Value} {xs ys:List Nat} {g o m c:Nat} {s x:Operand} {ty:TypeId} {pos:String} {after:Array Edge} {gd:Option (Nat × Bool)} (H:Mem n0 w0 w (A++R)) (l:LR R v xs) (hs:ρ s=v) (hx:ρ x=.slice (some ⟨g,o,none⟩) m c) (hm:ys.length=m) (hy:LieAt w g o ys) (hne:xs++ys≠[]) (hb:xs.length+m≤2000) :
  ∃ v' w',(execOp ρ ⟨dst,.call { callee:=.builtin .append,args:=#[s,x],argTypes:=#[27,27] },ty,pos,after,gd⟩).run Tryz.prog w=.ok (.value v') w'∧∃ R',Mem n0 w0 w' (A++R')∧LR R' v' (xs++ys)∧∀ v1 zs,LR R v1 zs→Dj v v1→LR R' v1 zs∧Dj v' v1:=by
 have hnr:=l.nr H (fun x hx=>List.mem_append_right _ hx)
 have hn0:=Nat.le_trans H.le H.bel.size
 obtain ⟨v',w',hrun,hnr',hgr,hnil,ho⟩:=run_appN (dst:=dst) (ty:=ty) (pos:=pos) (after:=after) (gd:=gd) hnr hs hx hm hy hb hn0
 obtain ⟨g',cap',cur',rfl,hg',hat',k1,k2,k3,k4⟩:=hnr'.lr hne
 have ho':v.ownBlock=some g'∨g'=w.heap.size:=by
  rcases ho with e | e
  ·exact Or.inl e.symm
  ·exact Or.inr (Option.some.inj e)
 have hfar:∀ y∈A++R,v.ownBlock≠some y.1→At w' y.1 y.2.1 y.2.2:=fun y hy hne=>(hgr.block y.1 (H.lt y hy) (fun e=>hne e.symm)).trans (H.at_ y hy)
 have hR1:∀ y∈A,v.ownBlock≠some y.1:=fun y hy e=>by
  rcases l with ⟨rfl,_⟩ | ⟨g1,cap1,cur1,rfl,hm1,_⟩
  ·cases e
  ·have e1:g1=y.1:=by simpa [Value.ownBlock] using e
   have hnd:=H.nd
   rw [List.map_append,List.nodup_append] at hnd
   exact hnd.2.2 y.1 (List.mem_map_of_mem hy) g1 (List.mem_map_of_mem (f:=(·.1)) hm1) e1.symm
 refine ⟨_,w',hrun,(g',24,cur')::R.filter (fun y=>decide (v.ownBlock≠some y.1)),?_,Or.inr ⟨g',cap',cur',rfl,List.mem_cons_self,k1,k2,k3,k4⟩,?_⟩
 ·have hsub:∀ y,y∈A++R.filter (fun y=>decide (v.ownBlock≠some y.1))→y∈A++R∧v.ownBlock≠some y.1:=fun y hy=>by
   rcases List.mem_append.1 hy with hy | hy
   ·exact ⟨List.mem_append_left _ hy,hR1 y hy⟩
   ·obtain ⟨h1,h2⟩:=List.mem_filter.1 hy
    exact ⟨List.mem_append_right _ h1,of_decide_eq_true h2⟩
  have hperm:(A++(g',24,cur')::R.filter (fun y=>decide (v.ownBlock≠some y.1))).Perm ((g',24,cur')::(A++R.filter (fun y=>decide (v.ownBlock≠some y.1)))):=List.perm_middle
  have hmem:∀ y,y∈A++(g',24,cur')::R.filter (fun y=>decide (v.ownBlock≠some y.1))→y=(g',24,cur')∨(y∈A++R∧v.ownBlock≠some y.1):=fun y hy=>by
   rcases List.mem_cons.1 (hperm.mem_iff.1 hy) with e | hy
   ·exact Or.inl e
   ·exact Or.inr (hsub y hy)
  refine ⟨H.le,H.bel.grown hgr hn0 (fun r e=>(hnr.lt r e).1),H.oth.trans (KeepsOthers.of_grownBy hgr fun j o hj ho=>?_),fun y hy=>?_,fun y hy=>?_,?_⟩
  ·rcases l with ⟨rfl,_⟩ | ⟨g1,cap1,cur1,rfl,hm1,_⟩
   ·cases hj
   ·have e1:g1=j:=by simpa [Value.ownBlock] using hj
    subst e1
    have:=H.at_ _ (List.mem_append_right A hm1)
    rw [show w.heap[g1]? = _ from this] at ho
    cases ho;rfl
  ·rcases hmem y hy with rfl | ⟨h1,h2⟩
   ·exact hat'
   ·exact hfar y h1 h2
  ·rcases hmem y hy with rfl | ⟨h1,_⟩
   ·exact hg'
   ·exact H.own y h1
  ·refine ((hperm.map _).nodup_iff).2 ?_
   rw [List.map_cons,List.nodup_cons]
   refine ⟨fun h=>?_,?_⟩
   ·obtain ⟨y,hy,e⟩:=List.mem_map.1 h
    obtain ⟨h1,h2⟩:=hsub y hy
    rcases ho' with e2 | e2
    ·rw [e] at h2;exact h2 e2
    ·have:=H.lt y h1;omega
   ·have h1:(A++R.filter (fun y=>decide (v.ownBlock≠some y.1))).Sublist (A++R):=(List.Sublist.refl A).append List.filter_sublist
    exact (h1.map _).nodup H.nd
 ·intro v1 zs l1 d
  have hd:Dj (.slice (some ⟨g',0,none⟩) (xs++ys).length cap') v1:=by
   rcases l1 with ⟨rfl,_⟩ | ⟨g1,cap1,cur1,rfl,hm1,_⟩
   ·exact Or.inr (Or.inl rfl)
   ·refine Or.inr (Or.inr fun e=>?_)
    have e1:g'=g1:=by simpa [Value.ownBlock] using e
    rcases ho' with e2 | e2
    ·rcases d with d | d | d
     ·rw [d] at e2;cases e2
     ·cases d
     ·exact d (by rw [e2,e1];rfl)
    ·have:=H.lt _ (List.mem_append_right A hm1)
     have h3:g1<w.heap.size:=this
     omega
  refine ⟨?_,hd⟩
  rcases l1 with ⟨rfl,h0⟩ | ⟨g1,cap1,cur1,rfl,hm1,rest⟩
  ·exact Or.inl ⟨rfl,h0⟩
  ·refine Or.inr ⟨g1,cap1,cur1,rfl,List.mem_cons_of_mem _ (List.mem_filter.2 ⟨hm1,decide_eq_true fun e=>?_⟩),rest⟩
   rcases d with d | d | d
   ·rw [d] at e;cases e
   ·cases d
   ·exact d (by rw [e];rfl)
set_option maxRecDepth 100000 in
set_option maxHeartbeats 800000 in
theorem same_n (n cap m capb:Nat) (pa pb:Option Addr) (xs ys:List Nat) (w0:World) (r:RN w0.heap.size w0 pa n cap xs) (r2:RN w0.heap.size w0 pb m capb ys) (hmn:n≠m):Calls Tryz.prog 13 #[.slice pa n cap,.slice pb m capb] w0 fun e w'=>e=.returned (.bool false)∧Below w0.heap.size w0 w':=by
 refine Jx (args:=[.slice pa n cap,.slice pb m capb]) Tryz.func13 rfl Tryz.ntmps13 (by rfl) fun a F HM=>?_
 refine Kgr ?_
 refine lxv (.bool false) F (Je rfl) fun a F=>?_
 refine Jc ?_
 refine Kgr ?_
 refine lxv (.slice pa n cap) F (Jb (F.ev rfl)) fun a F=>?_
 refine lxv (.int .i64 (n:Nat)) F (Ko (F.ev rfl)) fun a F=>?_
 refine lxv (.slice pb m capb) F (Jb (F.ev rfl)) fun a F=>?_
 refine lxv (.int .i64 (m:Nat)) F (Ko (F.ev rfl)) fun a F=>?_
 refine lxv (.bool true) F (Vn (b:=false) (decide_eq_false (by omega)) (F.ev rfl) (F.ev rfl) rfl) fun a F=>?_
 refine Jc ?_
 refine Kgq ?_
 refine wp_cond_true (F.ev rfl) ?_
 refine Kgr ?_
 refine lxv (.bool false) F (Je rfl) fun a F=>?_
 refine Jc ?_
 refine Kgq ?_
 refine wp_ret ?_
 repeat (first | refine Jt ?_ | refine Jo ?_)
 exact Kp F HM (Ua F rfl (s:=4) rfl)

set_option maxRecDepth 100000 in
set_option maxHeartbeats 800000 in
theorem same_e (n cap m capb:Nat) (pa pb:Option Addr) (xs ys:List Nat) (w0:World) (r:RN w0.heap.size w0 pa n cap xs) (r2:RN w0.heap.size w0 pb m capb ys) (hmn:n=m):Calls Tryz.prog 13 #[.slice pa n cap,.slice pb m capb] w0 fun e w'=>e=.returned (.bool (decide (xs=ys)))∧Below w0.heap.size w0 w':=by
 refine Jx (args:=[.slice pa n cap,.slice pb m capb]) Tryz.func13 rfl Tryz.ntmps13 (by rfl) fun a F HM=>?_
 refine Kgr ?_
 refine lxv (.bool false) F (Je rfl) fun a F=>?_
 refine Jc ?_
 refine Kgr ?_
 refine lxv (.slice pa n cap) F (Jb (F.ev rfl)) fun a F=>?_
 refine lxv (.int .i64 (n:Nat)) F (Ko (F.ev rfl)) fun a F=>?_
 refine lxv (.slice pb m capb) F (Jb (F.ev rfl)) fun a F=>?_
 refine lxv (.int .i64 (m:Nat)) F (Ko (F.ev rfl)) fun a F=>?_
 refine lxv (.bool false) F (Vn (b:=true) (decide_eq_true (by omega)) (F.ev rfl) (F.ev rfl) rfl) fun a F=>?_
 refine Jc ?_
 refine Kgq ?_
 refine wp_cond_false (F.ev rfl) ?_
 refine Kgr ?_
 refine lxv (.int .i64 0) F (Je rfl) fun a F=>?_
 refine Jc ?_
 refine Kgq ?_
 refine wp_loop (fun a w=>∃ i:Nat,i≤n∧(∀ j,j<i→xs[j]? = ys[j]?)∧Fr a 26 [(5,.int .i64 (i:Nat)),(0,.slice pa n cap),(1,.slice pb m capb)] []∧Mem w0.heap.size w0 w []) (fun a _=>n-(intOf (a.tmps.getD 5 undef)).toNat) ⟨0,Nat.zero_le _,fun j h=>absurd h (Nat.not_lt_zero _),F.sub [5,0,1],HM⟩ ?_
 clear F HM
 rintro aS wS ⟨i,hi,hsm,FS,HM⟩
 have F:=FS
 by_cases hlt:i<n
 ·refine Kgr ?_
  refine lxv (.int .i64 (i:Nat)) F (Jb (F.ev rfl)) fun a F=>?_
  refine lxv (.slice pa n cap) F (Jb (F.ev rfl)) fun a F=>?_
  refine lxv (.int .i64 (n:Nat)) F (Ko (F.ev rfl)) fun a F=>?_
  refine lxv (.bool true) F (Jz (u:=.int .i64 (i:Nat)) (v:=.int .i64 (n:Nat)) (fun ρ hx hy=>by simp only [execOp,hx,hy];simp [go_sem];omega) (F.ev rfl) (F.ev rfl)) fun a F=>?_
  refine Jc ?_
  refine Kgq ?_
  refine wp_cond_true (F.ev rfl) ?_
  have hltm:i<m:=by omega
  have hwr:=r.room hlt
  obtain ⟨gl,ol,hpa,hil,hxb,hc⟩:=r.get hlt
  obtain ⟨gv,ov,hpb,hiv,hyb,hcv⟩:=r2.get hltm
  have hgx:xs[i]? = some xs[i]:=List.getElem?_eq_getElem hil
  have hgy:ys[i]? = some ys[i]:=List.getElem?_eq_getElem hiv
  generalize xs[i]=x at *
  generalize ys[i]=y at *
  rcases hxy:decide (x=y) with _ | _
  ·refine Kgq ?_
   refine Kg (S:=fun w'=>Mem _ _ w' []) HM (fun _ h=>h) (by kernel_rfl) fun w HM HBW=>?_
   clear HBW
   try simp only [List.append_eq,List.cons_append,List.nil_append]
   refine Kt [⟨0,17,[],.val (.slice pa n cap),true⟩,
   ⟨1,18,[0],.val (.int .i64 (i:Nat)),true⟩,
   ⟨2,19,[0,1],.val (.pointer (some ⟨gl,ol+i*4,none⟩)),true⟩,
   ⟨3,20,[2],.val (num x),true⟩,
   ⟨4,21,[3],.val (.slice pb m capb),true⟩,
   ⟨5,22,[4],.val (.int .i64 (i:Nat)),true⟩,
   ⟨6,23,[4,5],.val (.pointer (some ⟨gv,ov+i*4,none⟩)),true⟩,
   ⟨7,24,[6],.val (num y),true⟩,
   ⟨8,25,[3,7],.val (.bool true),true⟩] 0 _ F HM (fun _ h=>h.subl (by first | exact List.Sublist.refl _ | (repeat (first | exact List.Sublist.refl _ | refine List.Sublist.cons_cons _ ?_ | refine List.Sublist.cons _ ?_)))) (by kernel_rfl) (by rfl) ?_ ?_ ?_ ?_ ?_ ?_ ?_
   ·kernel_rfl
   ·exact of_decide_eq_true (by kernel_rfl)
   ·(repeat refine all_cons ⟨_,by rfl,by rfl⟩ ?_);exact all_nil
   ·kernel_rfl
   ·(repeat (refine all_cons ?_ ?_;rotate_left));exact all_nil
    ·exact Wt _ _ _ _ _ _ _ (by rfl) (by rfl) Jg (fun ρ w kn hs=>Jb (kn _ _ (F.old (by rfl) rfl)))
    ·exact Wt _ _ _ _ _ _ _ (by rfl) (by rfl) Jg (fun ρ w kn hs=>Jb (kn _ _ (F.old (by rfl) rfl)))
    ·exact crS (fun ρ w kn hs=>Kv hlt (by rw [← hpa];exact (kn _ _ (kc 0 17))) (kn _ _ (kc 1 18)))
    ·exact crS (fun ρ w kn hs=>Kh (kn _ _ (kc 2 19)) (hc _ hs.bel))
    ·exact Wt _ _ _ _ _ _ _ (by rfl) (by rfl) Jg (fun ρ w kn hs=>Jb (kn _ _ (F.old (by rfl) rfl)))
    ·exact Wt _ _ _ _ _ _ _ (by rfl) (by rfl) Jg (fun ρ w kn hs=>Jb (kn _ _ (F.old (by rfl) rfl)))
    ·exact crS (fun ρ w kn hs=>Kv hltm (by rw [← hpb];exact (kn _ _ (kc 4 21))) (kn _ _ (kc 5 22)))
    ·exact crS (fun ρ w kn hs=>Kh (kn _ _ (kc 6 23)) (hcv _ hs.bel))
    ·exact crS (fun ρ w kn hs=>o_neqN hxb hyb hxy (kn _ _ (kc 3 20)) (kn _ _ (kc 7 24)))
   ·(repeat (refine all_cons ?_ ?_;rotate_left));exact all_nil
    all_goals try exact sA
   intro gs rs a w hgs hrs F HM HBW HR HO HT
   obtain rfl:=nl0 rs hrs
   obtain rfl:=nl0 gs hgs
   clear hrs hgs HR HBW HO
   clear HT
   refine Ks (by kernel_rfl) ?_ _
   refine Kgq ?_
   refine wp_cond_true (F.ev rfl) ?_
   refine Kgr ?_
   refine lxv (.bool false) F (Je rfl) fun a F=>?_
   refine Jc ?_
   have hV:decide (xs=ys)=false:=decide_eq_false fun e=>by rw [e,hgy] at hgx;exact (of_decide_eq_false hxy) (Option.some.inj hgx).symm
   rw [hV]
   refine Kgq ?_
   refine wp_ret ?_
   repeat (first | refine Jt ?_ | refine Jo ?_)
   exact Kp F HM (Ua F rfl (s:=4) rfl)
  ·refine Kgq ?_
   refine Kg (S:=fun w'=>Mem _ _ w' []) HM (fun _ h=>h) (by kernel_rfl) fun w HM HBW=>?_
   clear HBW
   try simp only [List.append_eq,List.cons_append,List.nil_append]
   refine Kt [⟨0,17,[],.val (.slice pa n cap),true⟩,
   ⟨1,18,[0],.val (.int .i64 (i:Nat)),true⟩,
   ⟨2,19,[0,1],.val (.pointer (some ⟨gl,ol+i*4,none⟩)),true⟩,
   ⟨3,20,[2],.val (num x),true⟩,
   ⟨4,21,[3],.val (.slice pb m capb),true⟩,
   ⟨5,22,[4],.val (.int .i64 (i:Nat)),true⟩,
   ⟨6,23,[4,5],.val (.pointer (some ⟨gv,ov+i*4,none⟩)),true⟩,
   ⟨7,24,[6],.val (num y),true⟩,
   ⟨8,25,[3,7],.val (.bool false),true⟩] 0 _ F HM (fun _ h=>h.subl (by first | exact List.Sublist.refl _ | (repeat (first | exact List.Sublist.refl _ | refine List.Sublist.cons_cons _ ?_ | refine List.Sublist.cons _ ?_)))) (by kernel_rfl) (by rfl) ?_ ?_ ?_ ?_ ?_ ?_ ?_
   ·kernel_rfl
   ·exact of_decide_eq_true (by kernel_rfl)
   ·(repeat refine all_cons ⟨_,by rfl,by rfl⟩ ?_);exact all_nil
   ·kernel_rfl
   ·(repeat (refine all_cons ?_ ?_;rotate_left));exact all_nil
    ·exact Wt _ _ _ _ _ _ _ (by rfl) (by rfl) Jg (fun ρ w kn hs=>Jb (kn _ _ (F.old (by rfl) rfl)))
    ·exact Wt _ _ _ _ _ _ _ (by rfl) (by rfl) Jg (fun ρ w kn hs=>Jb (kn _ _ (F.old (by rfl) rfl)))
    ·exact crS (fun ρ w kn hs=>Kv hlt (by rw [← hpa];exact (kn _ _ (kc 0 17))) (kn _ _ (kc 1 18)))
    ·exact crS (fun ρ w kn hs=>Kh (kn _ _ (kc 2 19)) (hc _ hs.bel))
    ·exact Wt _ _ _ _ _ _ _ (by rfl) (by rfl) Jg (fun ρ w kn hs=>Jb (kn _ _ (F.old (by rfl) rfl)))
    ·exact Wt _ _ _ _ _ _ _ (by rfl) (by rfl) Jg (fun ρ w kn hs=>Jb (kn _ _ (F.old (by rfl) rfl)))
    ·exact crS (fun ρ w kn hs=>Kv hltm (by rw [← hpb];exact (kn _ _ (kc 4 21))) (kn _ _ (kc 5 22)))
    ·exact crS (fun ρ w kn hs=>Kh (kn _ _ (kc 6 23)) (hcv _ hs.bel))
    ·exact crS (fun ρ w kn hs=>o_neqN hxb hyb hxy (kn _ _ (kc 3 20)) (kn _ _ (kc 7 24)))
   ·(repeat (refine all_cons ?_ ?_;rotate_left));exact all_nil
    all_goals try exact sA
   intro gs rs a w hgs hrs F HM HBW HR HO HT
   obtain rfl:=nl0 rs hrs
   obtain rfl:=nl0 gs hgs
   clear hrs hgs HR HBW HO
   clear HT
   refine Ks (by kernel_rfl) ?_ _
   refine Kgq ?_
   refine wp_cond_false (F.ev rfl) ?_
   refine Kgr ?_
   refine lxv (.int .i64 (i:Nat)) F (Jb (F.ev rfl)) fun a F=>?_
   refine lxv (.int .i64 ((i+1:Nat):Int)) F (Jz (u:=.int .i64 (i:Nat)) (v:=.int .i64 1) (fun ρ hx hy=>by simp only [execOp,hx,hy];simp [go_sem,hwr]) (F.ev rfl) rfl) fun a F=>?_
   refine lxv (.int .i64 ((i+1:Nat):Int)) F (Je (F.ev rfl)) fun a F=>?_
   refine Jc ?_
   refine Ku ?_
   refine ⟨⟨i+1,by omega,fun j hj=>?_,F.sub [5,0,1],HM⟩,?_⟩
   ·by_cases e:j=i
    ·subst e;rw [hgx,hgy,of_decide_eq_true hxy]
    ·exact hsm j (by omega)
   ·show n-(intOf (a.tmps.getD 5 undef)).toNat<n-(intOf (aS.tmps.getD 5 undef)).toNat
    rw [F.get 5 _ rfl,FS.get 5 _ rfl]
    show n-((i+1:Nat):Int).toNat<n-((i:Nat):Int).toNat
    omega
 ·refine Kgr ?_
  refine lxv (.int .i64 (i:Nat)) F (Jb (F.ev rfl)) fun a F=>?_
  refine lxv (.slice pa n cap) F (Jb (F.ev rfl)) fun a F=>?_
  refine lxv (.int .i64 (n:Nat)) F (Ko (F.ev rfl)) fun a F=>?_
  refine lxv (.bool false) F (Jz (u:=.int .i64 (i:Nat)) (v:=.int .i64 (n:Nat)) (fun ρ hx hy=>by simp only [execOp,hx,hy];simp [go_sem];omega) (F.ev rfl) (F.ev rfl)) fun a F=>?_
  refine Jc ?_
  refine Kgq ?_
  refine wp_cond_false (F.ev rfl) ?_
  refine Kgq ?_
  refine wp_exit ?_
  repeat (first | refine Kk ?_ | refine Kd ?_)
  refine Kgr ?_
  refine lxv (.bool true) F (Je rfl) fun a F=>?_
  refine Jc ?_
  have hV:decide (xs=ys)=true:=decide_eq_true (List.ext_getElem? fun j=>by
   by_cases hj:j<i
   ·exact hsm j hj
   ·rw [List.getElem?_eq_none (by have:=r.1;omega),List.getElem?_eq_none (by have:=r2.1;omega)])
  rw [hV]
  refine Kgq ?_
  refine wp_ret ?_
  repeat (first | refine Jt ?_ | refine Jo ?_)
  exact Kp F HM (Ua F rfl (s:=4) rfl)

theorem sameL_any (n cap m capb:Nat) (pa pb:Option Addr) (xs ys:List Nat) (w0:World) (r:RN w0.heap.size w0 pa n cap xs) (r2:RN w0.heap.size w0 pb m capb ys):Calls Tryz.prog 13 #[.slice pa n cap,.slice pb m capb] w0 fun e w'=>e=.returned (.bool (decide (xs=ys)))∧Below w0.heap.size w0 w':=by
 by_cases h:n=m
 ·exact same_e n cap m capb pa pb xs ys w0 r r2 h
 ·rw [decide_eq_false (show ¬ xs=ys from fun e=>h (by rw [← r.1,← r2.1,e]))]
  exact same_n n cap m capb pa pb xs ys w0 r r2 h
def us (xs:List Nat):Array Value:=(xs.map fun x=>Value.int .u64 (x:Nat)).toArray
section
variable {x y:Operand} {dst:Option Tmp} {ty:TypeId} {pos:String} {after:Array Edge} {guard:Option (Nat × Bool)} {ρ:Operand→Value} {w:World} {g o:Nat}
theorem o_buildX {X:Nat} (hX:X<18446744073709551616) (hx:ρ x=.int .u64 (X:Nat)):(execOp ρ ⟨dst,.build 24 #[(0,x)],ty,pos,after,guard⟩).run Tryz.prog w=.ok (.value (num X)) w:=by
 have h0:wd X 0=X:=by unfold wd;rw [Nat.pow_zero,Nat.div_one,Nat.mod_eq_of_lt hX]
 have hk:∀ k,wd X (k+1)=0:=fun k=>by unfold wd;rw [Nat.div_eq_of_lt (Nat.lt_of_lt_of_le hX (by rw [Nat.pow_succ];exact Nat.le_mul_of_pos_left _ (Nat.pow_pos (by decide))))]
 have h1:=hk 0;have h2:=hk 1;have h3:=hk 2
 simp [execOp,hx,go_sem,h0,h1,h2,h3]
end
abbrev qOf (n:Nat) (xs:List Nat):Nat→Nat→World→Prop:=fun g c w=>RN w.heap.size w (some ⟨g,0,none⟩) n c xs
def LW (T:TypeId) (sz:Nat) (R:List (Nat × TypeId × Array Value)) (v:Value) (n:Nat) (xs:List Value):Prop:=
 xs.length=n*sz∧((v=.slice none 0 0∧n=0)∨∃ g cap cur,v=.slice (some ⟨g,0,none⟩) n cap∧(g,T,cur)∈R∧n≤cap∧cap≤9223372036854775807∧cur.size=cap*sz∧cur.toList.take (n*sz)=xs)
theorem LW.nil (T:TypeId) (sz:Nat) (R:List (Nat × TypeId × Array Value)):LW T sz R (.slice none 0 0) 0 []:=⟨by simp,Or.inl ⟨rfl,rfl⟩⟩
theorem LW.own {T:TypeId} {sz n0 n:Nat} {w0 w:World} {M R:List (Nat × TypeId × Array Value)} {v:Value} {xs:List Value} (h:LW T sz R v n xs) (H:Mem n0 w0 w M) (hs:∀ x∈R,x∈M):w.ownsRow n0 T sz v n xs:=by
 refine ⟨h.1,?_⟩
 rcases h.2 with h1 | ⟨g,cap,cur,rfl,hm,h1,h2,h3,h4⟩
 ·exact Or.inl h1
 ·exact Or.inr ⟨g,cap,cur,rfl,H.own _ (hs _ hm),H.at_ _ (hs _ hm),h1,h2,h3,h4⟩
theorem LW.form {T:TypeId} {sz n:Nat} {R:List (Nat × TypeId × Array Value)} {v:Value} {xs:List Value} (h:LW T sz R v n xs):∃ a cap,v=.slice a n cap∧n≤cap∧cap≤9223372036854775807:=by
 rcases h.2 with ⟨rfl,rfl⟩ | ⟨g,cap,cur,rfl,_,h1,h2,_⟩
 ·exact ⟨none,0,rfl,Nat.le_refl _,by decide⟩
 ·exact ⟨_,cap,rfl,h1,h2⟩
theorem LW.at {T:TypeId} {sz n cap:Nat} {R:List (Nat × TypeId × Array Value)} {a:Option Addr} {xs:List Value} (h:LW T sz R (.slice a n cap) n xs) (hn:0<n):∃ g cur,a=some ⟨g,0,none⟩∧(g,T,cur)∈R∧n≤cap∧cur.size=cap*sz∧∀ (j:Nat) (u:Value),xs[j]? = some u→cur[j]? = some u:=by
 rcases h.2 with ⟨_,rfl⟩ | ⟨g,cap',cur,e,hm,h1,h2,h3,h4⟩
 ·omega
 ·cases e
  refine ⟨g,cur,rfl,hm,h1,h3,fun j u hu=>?_⟩
  rw [← h4,List.getElem?_take] at hu
  split at hu
  ·simpa using hu
  ·cases hu
theorem LW.mono {T:TypeId} {sz n:Nat} {R R':List (Nat × TypeId × Array Value)} {v:Value} {xs:List Value} (h:LW T sz R v n xs) (hs:∀ x∈R,x∈R'):LW T sz R' v n xs:=by
 refine ⟨h.1,?_⟩
 rcases h.2 with h1 | ⟨g,cap,cur,rfl,hm,r⟩
 ·exact Or.inl h1
 ·exact Or.inr ⟨g,cap,cur,rfl,hs _ hm,r⟩
theorem Mem.regrow {n0:Nat} {w0 w w':World} {A R:List (Nat × TypeId × Array Value)} {T:TypeId} {g:Nat} {cur':Array Value} {row:Option Nat} (H:Mem n0 w0 w (A++R)) (hg:w.grownBy w' row)
  (hrow:(row=none∧w.heap.size≤g)∨(row=some g∧∃ cur,(g,T,cur)∈R)) (hat:At w' g T cur'):Mem n0 w0 w' (A++(g,T,cur')::R.filter (fun y=>decide (y.1≠g))):=by
 have hn0:=Nat.le_trans H.le H.bel.size
 have hgn:n0≤g:=by
  rcases hrow with ⟨_,h⟩ | ⟨_,cur,h⟩
  ·omega
  ·exact H.own _ (List.mem_append_right A h)
 have hr:∀ k,row=some k→k=g:=fun k e=>by
  rcases hrow with ⟨h,_⟩ | ⟨h,_⟩
  ·rw [h] at e;cases e
  ·rw [h] at e;exact (Option.some.inj e).symm
 have hA:∀ y∈A,y.1≠g:=fun y hy e=>by
  rcases hrow with ⟨_,h⟩ | ⟨_,cur,h⟩
  ·have:=H.lt y (List.mem_append_left _ hy);omega
  ·have hnd:=H.nd
   rw [List.map_append,List.nodup_append] at hnd
   exact hnd.2.2 y.1 (List.mem_map_of_mem hy) g (List.mem_map_of_mem (f:=(·.1)) h) e
 have hsub:∀ y,y∈A++R.filter (fun y=>decide (y.1≠g))→y∈A++R∧y.1≠g:=fun y hy=>by
  rcases List.mem_append.1 hy with hy | hy
  ·exact ⟨List.mem_append_left _ hy,hA y hy⟩
  ·obtain ⟨h1,h2⟩:=List.mem_filter.1 hy
   exact ⟨List.mem_append_right _ h1,of_decide_eq_true h2⟩
 have hperm:(A++(g,T,cur')::R.filter (fun y=>decide (y.1≠g))).Perm ((g,T,cur')::(A++R.filter (fun y=>decide (y.1≠g)))):=List.perm_middle
 have hmem:∀ y,y∈A++(g,T,cur')::R.filter (fun y=>decide (y.1≠g))→y=(g,T,cur')∨(y∈A++R∧y.1≠g):=fun y hy=>by
  rcases List.mem_cons.1 (hperm.mem_iff.1 hy) with e | hy
  ·exact Or.inl e
  ·exact Or.inr (hsub y hy)
 refine ⟨H.le,H.bel.grown hg hn0 (fun k e=>by rw [hr k e];exact hgn),H.oth.trans (KeepsOthers.of_grownBy hg fun j o hj ho=>?_),fun y hy=>?_,fun y hy=>?_,?_⟩
 ·rcases hrow with ⟨h,_⟩ | ⟨h,cur,hm⟩
  ·rw [h] at hj;cases hj
  ·rw [h] at hj;obtain rfl:=Option.some.inj hj
   have:=H.at_ _ (List.mem_append_right A hm)
   rw [show w.heap[g]? = _ from this] at ho
   cases ho;rfl
 ·rcases hmem y hy with rfl | ⟨h1,h2⟩
  ·exact hat
  ·exact (hg.block y.1 (H.lt y h1) (fun e=>h2 (hr _ e.symm))).trans (H.at_ y h1)
 ·rcases hmem y hy with rfl | ⟨h1,_⟩
  ·exact hgn
  ·exact H.own y h1
 ·refine ((hperm.map _).nodup_iff).2 ?_
  rw [List.map_cons,List.nodup_cons]
  refine ⟨fun h=>?_,?_⟩
  ·obtain ⟨y,hy,e⟩:=List.mem_map.1 h
   exact (hsub y hy).2 e
  ·have h1:(A++R.filter (fun y=>decide (y.1≠g))).Sublist (A++R):=(List.Sublist.refl A).append List.filter_sublist
   exact (h1.map _).nodup H.nd
theorem LW.far {T T1:TypeId} {sz n g:Nat} {R:List (Nat × TypeId × Array Value)} {v:Value} {xs:List Value} {cur':Array Value} (h:LW T1 sz R v n xs) (hd:v.ownBlock≠some g):LW T1 sz ((g,T,cur')::R.filter (fun y=>decide (y.1≠g))) v n xs:=by
 refine ⟨h.1,?_⟩
 rcases h.2 with h1 | ⟨g1,cap,cur,rfl,hm,r⟩
 ·exact Or.inl h1
 ·exact Or.inr ⟨g1,cap,cur,rfl,List.mem_cons_of_mem _ (List.mem_filter.2 ⟨hm,decide_eq_true fun e=>hd (congrArg some e)⟩),r⟩
theorem dj_own {g n cap:Nat} {v:Value} (h:Dj (.slice (some ⟨g,0,none⟩) n cap) v):v.ownBlock≠some g:=by
 rcases h with h | h | h
 ·cases h
 ·rw [h];intro e;cases e
 ·exact fun e=>h e.symm
theorem LW.block {T:TypeId} {sz n:Nat} {R:List (Nat × TypeId × Array Value)} {v:Value} {xs:List Value} (h:LW T sz R v n xs) {g:Nat} (hg:v.ownBlock=some g):∃ cur,(g,T,cur)∈R:=by
 rcases h.2 with ⟨rfl,_⟩ | ⟨g1,cap,cur,rfl,hm,_⟩
 ·cases hg
 ·cases hg;exact ⟨cur,hm⟩
theorem Jgn {n0:Nat} {w0 w:World} {M:List (Nat × TypeId × Array Value)} (H:Mem n0 w0 w M) {g:Nat} {t t':TypeId} {c c':Array Value} (h:(g,t,c)∈M) (h':(g,t',c')∈M):t=t'∧c=c':=by
 have h1:=H.at_ _ h
 have h2:=H.at_ _ h'
 unfold At at h1 h2
 simp only at h1 h2
 rw [h1] at h2
 injection h2 with h2
 injection h2 with h3 h4
 exact ⟨h4,h3⟩
theorem own_mono {w:World} {base base':Nat} {e:TypeId} {size:Nat} {v:Value} {n:Nat} {xs:List Value} (h:w.ownsRow base e size v n xs) (hb:base'≤base):w.ownsRow base' e size v n xs:=
 ⟨h.1,h.2.imp id fun ⟨g,cap,cur,h1,h2,h3⟩=>⟨g,cap,cur,h1,Nat.le_trans hb h2,h3⟩⟩
theorem Jiv {P:Program} {n0:Nat} {w0 w:World} {A R:List (Nat × TypeId × Array Value)} {T:TypeId} {sz bytes:Nat} {dst:Option Tmp} {ρ:Operand→Value} {v:Value} {n m c:Nat} {xs ys:List Value} {ad:Addr} {s x:Operand} {t ty:TypeId} {pos:String} {after:Array Edge} {gd:Option (Nat × Bool)} {i:TypeInfo} {z:Value}
  (ht:P.underlying t=some (.slice T)) (hi:P.info? T=some i) (hz:i.zero=some z) (hsize:i.size=sz) (hby:i.bytes=bytes) (hzs:z.cells.size=sz) (hsz:0<sz)
  (H:Mem n0 w0 w (A++R)) (l:LW T sz R v n xs) (hs:ρ s=v) (hx:ρ x=.slice (some ad) m c) (hy:ys.length=m*sz) (hnews:∀ j u,ys[j]? = some u→w.cell? (ad.add j)=some u) (h1:∀ u∈ys,u.oneCell'=true) (hm:0<m) (h63:n+m≤maxLen) (hbytes:(n+m)*bytes≤140737488355328) :
  ∃ g' cap' w',(execOp ρ ⟨dst,.call { callee:=.builtin .append,args:=#[s,x],argTypes:=#[t,t] },ty,pos,after,gd⟩).run P w=.ok (.value (.slice (some ⟨g',0,none⟩) (n+m) cap')) w'∧∃ R',Mem n0 w0 w' (A++R')∧LW T sz R' (.slice (some ⟨g',0,none⟩) (n+m) cap') (n+m) (xs++ys) ∧
   (∀ T1 s1 v1 n1 xs1,LW T1 s1 R v1 n1 xs1→(Dj v v1∨(T1=T∧s1=sz∧n1≤n))→LW T1 s1 R' v1 n1 xs1)∧(∀ T1 s1 v1 n1 xs1,LW T1 s1 R v1 n1 xs1→Dj v v1→Dj (.slice (some ⟨g',0,none⟩) (n+m) cap') v1)∧(v.ownBlock=some g'∨w.heap.size≤g'):=by
 have hown:=l.own H (fun x hx=>List.mem_append_right A hx)
 have hn0:=Nat.le_trans H.le H.bel.size
 have mk:∀ {g' cap':Nat} {w':World} {row:Option Nat},w'.ownsRow n0 T sz (.slice (some ⟨g',0,none⟩) (n+m) cap') (n+m) (xs++ys)→w.grownBy w' row→((row=none∧w.heap.size≤g')∨(row=some g'∧v=.slice (some ⟨g',0,none⟩) n cap'∧∃ cur,(g',T,cur)∈R)) →
   ∃ R',Mem n0 w0 w' (A++R')∧LW T sz R' (.slice (some ⟨g',0,none⟩) (n+m) cap') (n+m) (xs++ys) ∧
   (∀ T1 s1 v1 n1 xs1,LW T1 s1 R v1 n1 xs1→(Dj v v1∨(T1=T∧s1=sz∧n1≤n))→LW T1 s1 R' v1 n1 xs1)∧(∀ T1 s1 v1 n1 xs1,LW T1 s1 R v1 n1 xs1→Dj v v1→Dj (.slice (some ⟨g',0,none⟩) (n+m) cap') v1)∧(v.ownBlock=some g'∨w.heap.size≤g'):=by
  intro g' cap' w' row ho hg hrow
  rcases ho.2 with ⟨e,_⟩ | ⟨g1,cap1,cur',e,hb,hat,k1,k2,k3,k4⟩
  ·cases e
  cases e
  refine ⟨_,H.regrow hg (hrow.imp id fun h=>⟨h.1,h.2.2⟩) hat,⟨ho.1,Or.inr ⟨g',cap',cur',rfl,List.mem_cons_self,k1,k2,k3,k4⟩⟩,?_,?_,?_⟩
  ·intro T1 s1 v1 n1 xs1 l1 hd
   rcases hrow with ⟨_,hnew⟩ | ⟨_,rfl,cur,hcur⟩
   ·refine l1.far fun e=>?_
    obtain ⟨c1,hm1⟩:=l1.block e
    have h3:g'<w.heap.size:=H.lt _ (List.mem_append_right A hm1)
    omega
   ·rcases hd with hd | ⟨rfl,rfl,hle⟩
    ·exact l1.far (dj_own hd)
    ·by_cases e:v1.ownBlock=some g'
     ·refine ⟨l1.1,?_⟩
      rcases l1.2 with ⟨h1,h2⟩ | ⟨g2,cap2,cur2,rfl,hm2,j1,j2,j3,j4⟩
      ·exact Or.inl ⟨h1,h2⟩
      ·obtain rfl:g2=g':=by simpa [Value.ownBlock] using e
       obtain ⟨_,rfl⟩:=Jgn H (List.mem_append_right A hm2) (List.mem_append_right A hcur)
       have hsz2:cap2=cap':=Nat.eq_of_mul_eq_mul_right hsz (by
        rcases l.2 with ⟨e3,_⟩ | ⟨g3,cap3,cur3,e3,hm3,q1,q2,q3,q4⟩
        ·cases e3
        ·cases e3
         obtain ⟨_,rfl⟩:=Jgn H (List.mem_append_right A hm3) (List.mem_append_right A hcur)
         rw [← j3,← q3])
       subst hsz2
       refine Or.inr ⟨g2,cap2,cur',rfl,List.mem_cons_self,j1,j2,k3,?_⟩
       have h5:(cur'.toList.take ((n+m)*s1)).take (n1*s1)=cur'.toList.take (n1*s1):=by rw [List.take_take,Nat.min_eq_left (Nat.mul_le_mul_right _ (by omega))]
       rw [← h5,k4,← j4]
       have h6:n1*s1≤n*s1:=Nat.mul_le_mul_right _ hle
       rw [List.take_append_of_le_length (by rw [l.1];exact h6)]
       rcases l.2 with ⟨e3,_⟩ | ⟨g3,cap3,cur3,e3,hm3,q1,q2,q3,q4⟩
       ·cases e3
       ·cases e3
        obtain ⟨_,rfl⟩:=Jgn H (List.mem_append_right A hm3) (List.mem_append_right A hcur)
        rw [← q4,List.take_take,Nat.min_eq_left h6]
     ·exact l1.far e
  ·intro T1 s1 v1 n1 xs1 l1 d
   rcases hrow with ⟨_,hnew⟩ | ⟨_,rfl,_⟩
   ·refine Or.inr (Or.inr fun e=>?_)
    obtain ⟨c1,hm1⟩:=l1.block (g:=g') e.symm
    have h3:g'<w.heap.size:=H.lt _ (List.mem_append_right A hm1)
    omega
   ·exact d
  ·rcases hrow with ⟨_,hnew⟩ | ⟨_,rfl,_⟩
   ·exact Or.inr hnew
   ·exact Or.inl rfl
 have fin:∀ {v':Value} {w':World},(Builtin.append_ #[t,t] ty #[v,.slice (some ad) m c]).run P w=.ok v' w'→(execOp ρ ⟨dst,.call { callee:=.builtin .append,args:=#[s,x],argTypes:=#[t,t] },ty,pos,after,gd⟩).run P w=.ok (.value v') w':=by
  intro v' w' hr
  unfold execOp
  simp only [resolve,invoke,builtin,Sem.run_bind,Sem.run_pure,Result.andThen_ok,List.map_toArray,List.map_cons,List.map_nil,hs,hx,hr]
 by_cases hroom:∃ g cap,v=.slice (some ⟨g,0,none⟩) n cap∧n+m≤cap
 ·obtain ⟨g,cap,rfl,hc⟩:=hroom
  obtain ⟨w',hr,ho,hg⟩:=run_append_fits (P:=P) w n0 t ty T i sz ht hi hsize g n cap xs hown ad m c ys hy hnews h1 hc
  exact ⟨g,cap,w',fin hr,mk ho hg (Or.inr ⟨rfl,rfl,l.block (g:=g) rfl⟩)⟩
 ·rcases l.2 with ⟨rfl,rfl⟩ | ⟨g,cap,cur,rfl,hm1,j1,j2,j3,j4⟩
  ·obtain ⟨g',cap',w',hr,ho,hg,hb,_⟩:=run_append_lies (P:=P) w t ty n0 T i z sz bytes ht hi hz hsize hby hzs hsz _ 0 xs hown ad m c ys hy hnews h1 hm h63 hbytes hn0 _ rfl
   refine ⟨g',cap',w',fin hr,mk ho hg (Or.inl ⟨rfl,?_⟩)⟩
   rcases hb with hb | hb
   ·cases hb
   ·omega
  ·obtain ⟨v',w',hr,ho,hg⟩:=run_append_arg_grows (P:=P) w t ty T i z sz bytes ht hi hz hsize hby hzs hsz ⟨g,0,none⟩ n cap xs l.1 (hown.cells rfl) ad m c ys hy hnews (by have:¬ n+m≤cap:=fun h=>hroom ⟨g,cap,rfl,h⟩;omega) h63 hbytes
   obtain ⟨g',cap',rfl,hb,_⟩:=ho.form (by omega)
   exact ⟨g',cap',w',fin hr,mk (own_mono ho hn0) hg (Or.inl ⟨rfl,hb⟩)⟩
def Jht (xs:List Value) (o:Nat) (vs:List Value):List Value:=xs.take o++vs++xs.drop (o+vs.length)
theorem sets_size:∀ (vs:List Value) (cs:Array Value) (o:Nat),(Jau cs o vs).size=cs.size
 | [],_,_=>rfl
 | v::vs,cs,o=>by simp [Jau,sets_size vs]
theorem sets_get:∀ (vs:List Value) (cs:Array Value) (o j:Nat),o+vs.length≤cs.size→(Jau cs o vs)[j]? = if o≤j∧j<o+vs.length then vs[j-o]? else cs[j]?
 | [],cs,o,j,_=>by
  rw [if_neg (by simp)]
  rfl
 | v::vs,cs,o,j,h=>by
  rw [List.length_cons] at h
  rw [Jau,sets_get vs _ (o+1) j (by simp;omega),List.length_cons,Array.getElem?_setIfInBounds]
  by_cases h1:o+1≤j∧j<o+1+vs.length
  ·rw [if_pos h1,if_pos ⟨by omega,by omega⟩,show j-o=(j-(o+1))+1 by omega,List.getElem?_cons_succ]
  ·rw [if_neg h1]
   by_cases h2:o=j
   ·subst h2
    rw [if_pos rfl,if_pos (by omega),if_pos ⟨Nat.le_refl _,by omega⟩,Nat.sub_self];rfl
   ·rw [if_neg h2,if_neg (by omega)]
theorem Jga (xs vs:List Value) (o j:Nat) (h:o+vs.length≤xs.length):(Jht xs o vs)[j]? = if o≤j∧j<o+vs.length then vs[j-o]? else xs[j]?:=by
 have ht:(xs.take o).length=o:=by rw [List.length_take];omega
 unfold Jht
 by_cases h1:j<o
 ·rw [if_neg (by omega),List.append_assoc,List.getElem?_append_left (by omega),List.getElem?_take,if_pos h1]
 ·by_cases h2:j<o+vs.length
  ·rw [if_pos ⟨by omega,h2⟩,List.append_assoc,List.getElem?_append_right (by omega),ht,List.getElem?_append_left (by omega)]
  ·rw [if_neg (by omega),List.getElem?_append_right (by rw [List.length_append];omega),List.length_append,ht,List.getElem?_drop]
   congr 1
   omega
theorem sets_list (vs:List Value) (cs:Array Value) (o:Nat) (h:o+vs.length≤cs.size):(Jau cs o vs).toList=Jht cs.toList o vs:=by
 apply List.ext_getElem?
 intro j
 have e1:(Jau cs o vs).toList[j]? = (Jau cs o vs)[j]?:=Array.getElem?_toList ..
 have e2:cs.toList[j]? = cs[j]?:=Array.getElem?_toList ..
 rw [Jga _ _ _ _ (by rw [Array.length_toList];exact h),e1,sets_get vs cs o j h,e2]
theorem setL_take (xs:List Value) (o k:Nat) (vs:List Value) (h:o+vs.length≤k) (hk:k≤xs.length):(Jht xs o vs).take k=Jht (xs.take k) o vs:=by
 apply List.ext_getElem?
 intro j
 rw [List.getElem?_take,Jga _ _ _ _ (by omega),Jga _ _ _ _ (by rw [List.length_take];omega),List.getElem?_take]
 by_cases h1:j<k
 ·simp only [if_pos h1]
 ·simp only [if_neg h1]
  rw [if_neg (by omega)]
theorem puts_at {T:TypeId} {g:Nat}:∀ (vs:List Value) {w:World} {cs:Array Value} (o:Nat),At w g T cs→At (puts w g o vs) g T (Jau cs o vs)
 | [],_,_,_,h=>h
 | v::vs,_,_,o,h=>puts_at vs (o+1) (h.set o v)
theorem puts_grown {g:Nat}:∀ (vs:List Value) {w a:World} (o:Nat),a.grownBy w (some g)→a.grownBy (puts w g o vs) (some g)
 | [],_,_,_,h=>h
 | v::vs,w,a,o,h=>puts_grown vs (o+1) ⟨h.os,h.tape,h.output,by simpa [World.setCell] using h.size,fun k hk hn=>by
   have hne:g≠k:=fun e=>hn (by rw [e])
   refine Eq.trans ?_ (h.block k hk hn)
   simp [World.setCell,Array.getElem?_modify,hne]⟩
theorem setL_fill (m xs:List Value) (j:Nat) (hx:(j+1)*m.length≤xs.length):Jht ((List.replicate j m).flatten++xs.drop (j*m.length)) (j*m.length) m=(List.replicate (j+1) m).flatten++xs.drop ((j+1)*m.length):=by
 have hl:((List.replicate j m).flatten).length=j*m.length:=by simp
 unfold Jht
 rw [List.take_append_of_le_length (by omega),List.take_of_length_le (by omega),List.drop_append,hl,List.drop_of_length_le (by omega),List.nil_append,show j*m.length+m.length-j*m.length=m.length by omega,List.drop_drop,List.replicate_succ',List.flatten_append]
 simp [Nat.add_mul]
theorem rep_get (m:List Value):∀ (k i c:Nat),i<k→c<m.length→((List.replicate k m).flatten)[i*m.length+c]? = m[c]?
 | 0,_,_,h,_=>absurd h (Nat.not_lt_zero _)
 | k+1,0,c,_,hc=>by
  rw [List.replicate_succ,List.flatten_cons,Nat.zero_mul,Nat.zero_add,List.getElem?_append_left hc]
 | k+1,i+1,c,h,hc=>by
  rw [List.replicate_succ,List.flatten_cons,List.getElem?_append_right (by rw [Nat.add_mul];omega),show (i+1)*m.length+c-m.length=i*m.length+c by rw [Nat.add_mul];omega]
  exact rep_get m k i c (by omega) hc
theorem putW {n0:Nat} {w0 w:World} {A R:List (Nat × TypeId × Array Value)} {T:TypeId} {sz g n cap o:Nat} {v:Value} {xs vs:List Value} (H:Mem n0 w0 w (A++R)) (l:LW T sz R v n xs) (hv:v=.slice (some ⟨g,0,none⟩) n cap) (hb:o+vs.length≤n*sz) :
  ∃ R',Mem n0 w0 (puts w g o vs) (A++R')∧LW T sz R' v n (Jht xs o vs)∧∀ T1 s1 v1 n1 xs1,LW T1 s1 R v1 n1 xs1→Dj v v1→LW T1 s1 R' v1 n1 xs1:=by
 subst hv
 rcases l.2 with ⟨e,_⟩ | ⟨g1,cap1,cur,e,hm,h1,h2,h3,h4⟩
 ·cases e
 cases e
 have hat:=H.at_ _ (List.mem_append_right A hm)
 have hc:n*sz≤cap*sz:=Nat.mul_le_mul_right _ h1
 refine ⟨_,H.regrow (puts_grown vs o ⟨rfl,rfl,rfl,Nat.le_refl _,fun _ _ _=>rfl⟩) (Or.inr ⟨rfl,cur,hm⟩) (puts_at vs o hat),⟨?_,Or.inr ⟨g,cap,_,rfl,List.mem_cons_self,h1,h2,by rw [sets_size];exact h3,?_⟩⟩,fun T1 s1 v1 n1 xs1 l1 d=>l1.far (dj_own d)⟩
 ·unfold Jht
  have:=l.1
  simp only [List.length_append,List.length_take,List.length_drop]
  omega
 ·rw [sets_list vs cur _ (by omega),setL_take _ _ _ _ hb (by rw [Array.length_toList];omega),h4]
theorem Jeg {n0:Nat} {w0 w:World} {M R:List (Nat × TypeId × Array Value)} {T T1:TypeId} {sz s1 n n1:Nat} {v v1:Value} {xs xs1:List Value} (H:Mem n0 w0 w M) (hs:∀ x∈R,x∈M) (l:LW T sz R v n xs) (l1:LW T1 s1 R v1 n1 xs1) (hne:T1≠T):Dj v v1:=by
 cases hv:v.ownBlock with
 | none=>exact Or.inl hv
 | some g=>
  refine Or.inr (Or.inr fun e=>hne ?_)
  obtain ⟨c,h1⟩:=l.block hv
  obtain ⟨c1,h2⟩:=l1.block (e.symm.trans hv)
  exact ((Jgn H (hs _ h1) (hs _ h2)).1).symm
def KO (T:TypeId) (R R':List (Nat × TypeId × Array Value)):Prop:=∀ T1 s1 v1 n1 xs1,T1≠T→LW T1 s1 R v1 n1 xs1→LW T1 s1 R' v1 n1 xs1
def KO2 (T H:TypeId) (R R':List (Nat × TypeId × Array Value)):Prop:=∀ T1 s1 v1 n1 xs1,T1≠T→T1≠H→LW T1 s1 R v1 n1 xs1→LW T1 s1 R' v1 n1 xs1
structure En where
 l:Value
 g:Value
 q:Nat
 k:Nat
def enC:List En→List Value
 | []=>[]
 | e::es=>e.l::e.g::.int .i64 (e.q:Nat)::enC es
theorem enC_app:∀ es fs:List En,enC (es++fs)=enC es++enC fs
 | [],_=>rfl
 | e::es,fs=>by simp [enC,enC_app es fs]
theorem Jgp:∀ (es:List En) (i:Nat) (e:En),es[i]? = some e→(enC es)[i*3]? = some e.l∧(enC es)[i*3+1]? = some e.g∧(enC es)[i*3+2]? = some (.int .i64 (e.q:Nat))
 | f::es,0,e,h=>by cases h;exact ⟨rfl,rfl,rfl⟩
 | f::es,i+1,e,h=>by
  have:=Jgp es i e (by simpa using h)
  rw [show (i+1)*3=i*3+3 by omega]
  simpa [enC] using this
theorem enC_set:∀ (es:List En) (i:Nat) (e:En) (u:Value),es[i]? = some e→Jht (enC es) (i*3+1) [u]=enC (es.set i { e with g:=u })
 | f::es,0,e,u,h=>by cases h;simp [Jht,enC]
 | f::es,i+1,e,u,h=>by
  have:=enC_set es i e u (by simpa using h)
  rw [show (i+1)*3+1=(i*3+1)+3 by omega]
  simp only [List.set_cons_succ,enC,← this]
  simp [Jht,List.take_succ_cons,show i*3+1+3+1=(i*3+1+1)+3 by omega]
def mks (m:Nat→List Value) (q k:Nat):List Value:=(List.replicate k (m q)).flatten
structure FA (T:TypeId) (sz:Nat) (H:TypeId) (m:Nat→List Value) (R:List (Nat × TypeId × Array Value)) (v:Value) (es:List En) (p:Nat):Prop where
 held:LW H 3 R v es.length (enC es)
 rows:∀ (i:Nat) (e:En),es[i]? = some e→∃ xs,LW T sz R e.l e.k xs∧(i<p→xs=mks m e.q e.k)
structure GA (T:TypeId) (sz:Nat) (H:TypeId) (m:Nat→List Value) (R:List (Nat × TypeId × Array Value)) (v:Value) (es:List En) (p:Nat):Prop where
 held:LW H 3 R v es.length (enC es)
 rows:∀ (i:Nat) (e:En),es[i]? = some e→LW T sz R e.l e.k (mks m e.q e.k)
 long:∀ (i:Nat) (e:En),es[i]? = some e→i<p→LW T sz R e.g (e.k+40) (mks m e.q (e.k+40))
def EDj (es:List En):Prop:=∀ (i j:Nat) (e e':En),i≠j→es[i]? = some e→es[j]? = some e'→Dj e.l e'.l
def GDj (es:List En) (p:Nat):Prop:=∀ (i j:Nat) (e e':En),i≠j→i<p→es[i]? = some e→es[j]? = some e'→Dj e.g e'.l∧(j<p→Dj e.g e'.g)
theorem FA.on {T H T':TypeId} {sz p:Nat} {m:Nat→List Value} {R R':List (Nat × TypeId × Array Value)} {v:Value} {es:List En} (h:FA T sz H m R v es p) (k:KO T' R R') (h1:T≠T') (h2:H≠T'):FA T sz H m R' v es p:=⟨k _ _ _ _ _ h2 h.held,fun i e he=>by obtain ⟨xs,l,r⟩:=h.rows i e he;exact ⟨xs,k _ _ _ _ _ h1 l,r⟩⟩
theorem FA.ga {T H:TypeId} {sz:Nat} {m:Nat→List Value} {R:List (Nat × TypeId × Array Value)} {v:Value} {es:List En} (h:FA T sz H m R v es es.length):GA T sz H m R v es 0:=⟨h.held,fun i e he=>by obtain ⟨xs,l,r⟩:=h.rows i e he;rw [← r (List.getElem?_eq_some_iff.1 he).1];exact l,fun i e _ hp=>absurd hp (Nat.not_lt_zero _)⟩
theorem mks_get {sz:Nat} {m:Nat→List Value} {q k i c:Nat} (hm:(m q).length=sz) (hi:i<k) (hc:c<sz):(mks m q k)[i*sz+c]? = (m q)[c]?:=by unfold mks;rw [← hm] at hc ⊢;exact rep_get _ _ _ _ hi hc
theorem mks_more (m:Nat→List Value) (q k:Nat):mks m q k++m q=mks m q (k+1):=by unfold mks;rw [List.replicate_succ',List.flatten_append];simp
end Go.Proofs.YtmmgmljkmmgjdaaGreatDoor
