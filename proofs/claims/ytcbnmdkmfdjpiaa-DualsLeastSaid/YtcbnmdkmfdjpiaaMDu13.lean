import Derived.Deep.Cut
import Derived.Test.YtcbnmdkmfdjpiaaMDu11
import Derived.Test.YtcbnmdkmfdjpiaaMShort
namespace Go.Proofs.Ytcbnmdkmfdjpiaa
set_option maxRecDepth 100000
open Go.RowKit
set_option linter.unusedSimpArgs false
set_option linter.unusedVariables false
attribute [local go_sem ↓] Go.wp_at_zero Go.wp_at_succ

theorem Jdw {b:Bool} (P Q G H m capp:Nat) (pp:Option Addr) (ps:List Nat) (hP:P<2^256) (hQ:Q<2^256) (hG:G<2^256) (hH:H<2^256) (w0:World) (rp:RN w0.heap.size w0 pp m capp ps) (h:fineB P Q G H ps=b):Calls Try.prog 7 #[grp P Q G H,.slice pp m capp] w0 fun e w'=>e=.returned (.bool b)∧Below w0.heap.size w0 w':=by
 subst h;exact fine_any P Q G H m capp pp ps hP hQ hG hH w0 rp
theorem fine_gd {P Q G H:Nat} {ps:List Nat} (hP:P<2^256) (hQ:Q<2^256) (hG:G<2^256) (hH:H<2^256) (h:fineB P Q G H ps=true):Gd P Q G∧7<Q∧Q<2147483648∧wd Q 0=Q∧∀ c∈ps,c<Q:=by
 unfold fineB at h
 simp only [Bool.and_eq_true,decide_eq_true_iff] at h
 obtain ⟨g,e,q⟩:=gd_of hP hQ hG h.1.1
 rw [e] at h
 exact ⟨g,h.1.2,q,e,(atB_iff.1 h.2).2.2⟩
def Jax (Q k:Nat):List Nat:=(List.range k).map fun i=>Ki Q ((i+1:Nat):Int)
theorem ptsL_val {Q k:Nat} (hk:k<Q) (hq:1<Q):Jax Q k=(List.range k).map (·+1):=by
 unfold Jax
 exact List.map_congr_left fun i hi=>Jdk (by have:=List.mem_range.1 hi;omega) hq
theorem o_conv8 {x:Operand} {dst:Option Tmp} {ty:TypeId} {pos:String} {after:Array Edge} {guard:Option (Nat × Bool)} {ρ:Operand→Value} {w:World} {c:Nat} (hc:c<256) (hx:ρ x=.int .u8 (c:Nat)):(execOp ρ ⟨dst,.convert 5 3 x,ty,pos,after,guard⟩).run Try.prog w=.ok (.value (.int .i64 (c:Nat))) w:=by
 have h:IntKind.i64.wrap (c:Int)=(c:Nat):=by rw [IntKind.wrap_i64];omega
 simp [execOp,hx,go_sem,h]
theorem o_remI {x y:Operand} {dst:Option Tmp} {ty:TypeId} {pos:String} {after:Array Edge} {guard:Option (Nat × Bool)} {ρ:Operand→Value} {w:World} {c n:Nat} (hc:c<4611686018427387904) (h0:0<n) (hn:n<4611686018427387904) (hx:ρ x=.int .i64 (c:Nat)) (hy:ρ y=.int .i64 (n:Nat)):(execOp ρ ⟨dst,.binOp .rem 3 x y 3,ty,pos,after,guard⟩).run Try.prog w=.ok (.value (.int .i64 ((c%n:Nat):Int))) w:=by
 have h1:Int.tmod (c:Int) (n:Int)=((c%n:Nat):Int):=by rw [Int.tmod_eq_emod_of_nonneg (by omega),Int.natCast_emod]
 have hlt:=Nat.mod_lt c h0
 have h2:IntKind.i64.wrap ((c%n:Nat):Int)=((c%n:Nat):Int):=by rw [IntKind.wrap_i64];omega
 have h3:¬ n=0:=by omega
 simp only [execOp,hx,hy]
 simp only [go_sem]
 simp [go_sem,h1,h2,h3]
 try exact h2
theorem RN.take {n0:Nat} {w:World} {a:Option Addr} {n cap k:Nat} {xs:List Nat} (h:RN n0 w a n cap xs) (hk:k≤n):RN n0 w a k cap (xs.take k):=by
 obtain ⟨h0,h1,h2,h3,h4⟩:=h
 refine ⟨by rw [List.length_take];omega,by rw [List.length_take];omega,h2,fun x hx=>h3 x (List.mem_of_mem_take hx),?_⟩
 rcases h4 with h4 | ⟨g,o,ha,hl,hc⟩
 ·exact .inl (by rw [h4,List.take_nil])
 ·refine .inr ⟨g,o,ha,hl,fun i hi k hk=>?_⟩
  rw [List.length_take] at hi
  rw [List.getElem_take]
  exact hc i (by omega) k hk
theorem o_cutK {x y:Operand} {dst:Option Tmp} {ty:TypeId} {pos:String} {after:Array Edge} {guard:Option (Nat × Bool)} {ρ:Operand→Value} {w:World} {g o n c k:Nat} (hk:k≤n) (hn:n≤c) (hx:ρ x=.slice (some ⟨g,o,none⟩) n c) (hy:ρ y=.int .i64 (k:Nat)):(execOp ρ ⟨dst,.slice 27 x none (some y) none,ty,pos,after,guard⟩).run Try.prog w=.ok (.value (.slice (some ⟨g,o,none⟩) k c)) w:=by
 have h1:(k:Int)≤(c:Int):=by omega
 have h2:¬ (c:Int)<(k:Int):=by omega
 simp [execOp,hx,hy,go_sem,h1,h2]
theorem thr_ok12 (P Q G H n cap m capv:Nat) (pa pb:Option Addr) (xs vs:List Nat) (w0:World) (hQ:Q<2^256) (r:RN w0.heap.size w0 pa n cap xs) (rv:RN w0.heap.size w0 pb m capv vs) (hn:n≤1900) (h:Jgu Q xs vs=true) (hD:Jgp Q xs):Calls Try.prog 12 #[grp P Q G H,.slice pa n cap,.slice pb m capv] w0 fun e w'=>∃ u,e=.returned u∧Below w0.heap.size w0 w'∧∃ gp ps cs,u=.tuple #[.slice (some ⟨gp,0,none⟩) n n,.int .i64 0]∧w0.heap.size≤gp∧At w' gp 24 cs∧Pf cs ps∧TS Q xs vs ps:=
 (thr_any P Q G H n cap m capv pa pb xs vs w0 hQ r rv hn h).mono fun e w' k => by
  obtain ⟨gp,ps,rfl,hb,hg,⟨cs,hat,hp,_⟩,ht⟩:=k.1 hD
  exact ⟨_,rfl,hb,gp,ps,cs,rfl,hg,hat,hp,ht⟩
theorem pts_nodup {Q k:Nat} (hk:k<Q) (hq:1<Q):(Jax Q k).Nodup:=by
 rw [ptsL_val hk hq,List.nodup_iff_pairwise_ne,List.pairwise_map]
 exact List.pairwise_lt_range.imp fun h=>by omega
theorem Jfq {Q k:Nat} (hq:1<Q):∀ x∈Jax Q k,x<Q:=fun x hx=>by
 obtain ⟨i,_,rfl⟩:=List.mem_map.1 hx
 exact Vr hq _
theorem pts_thr {Q k:Nat} (hk:k<Q) (hq:1<Q) (h1:1≤k) (vs:List Nat) (hl:vs.length=k) (hv:∀ v∈vs,v<Q):Jgu Q (Jax Q k) vs=true:=
 thrB_iff.2 ⟨by rw [hl];simp [Jax],hv,hq,fun e=>by have:=congrArg List.length e;simp [Jax] at this;omega,pts_nodup hk hq,Jfq hq⟩
theorem pts_D {Q k:Nat} (hq:Pr.Pri Q) (hk:k<Q):Jgp Q (Jax Q k):=by
 have e:zs (Jax Q k)=pls k:=by
  rw [ptsL_val hk hq.1];simp [zs,pls,Function.comp_def]
 unfold Jgp
 rw [e]
 exact Jdp hq hk
theorem pts_get {Q k i:Nat} (hi:i<k):(Jax Q k)[i]? = some (Ki Q ((i+1:Nat):Int)):=by
 unfold Jax
 rw [List.getElem?_map,List.getElem?_range hi];rfl
theorem ts_val {Q k i v:Nat} (hq:1<Q) {vs ps:List Nat} (h:TS Q (Jax Q k) vs ps) (hi:i<k) (hv:vs[i]? = some v):Cg Q (evZ (zs ps) ((i+1:Nat):Int)) (v:Int):=
 (Jfj (Wc hq _).symm _).trans (h.2.2 i _ v (pts_get hi) hv)
theorem valN_cg {Q:Nat} (hq:1<Q) (ps:List Nat) (i:Nat):Cg Q ((Jcz Q ps i:Nat):Int) (evZ (zs ps) ((i+1:Nat):Int)):=(Wc hq _).trans (Jfj (Wc hq _) _)
theorem valN_lt {Q:Nat} (hq:1<Q) (ps:List Nat) (i:Nat):Jcz Q ps i<Q:=Vr hq _
theorem pad_ev (ps:List Nat) (m:Nat) (y:Int):evZ (zs (ps++List.replicate m 0)) y=evZ (zs ps) y:=by
 have e1:zs (ps++List.replicate m 0)=zs ps++zs (List.replicate m 0):=by simp [zs]
 rw [e1,Jcv,Jar (zs (List.replicate m 0)) _ fun c hc=>by obtain ⟨d,hd,rfl⟩:=List.mem_map.1 hc;rw [List.eq_of_mem_replicate hd];rfl]
 omega
theorem getD_get {ls:List Nat} {i v:Nat} (h:ls[i]? = some v):ls.getD i 0=v:=by rw [List.getD_eq_getElem?_getD,h];rfl
theorem pol_iff {Q n k:Nat} (hq:Pr.Pri Q) (hn:n<Q) (hk:k≤n) (ls ps:List Nat) (hl:ls.length=n) (hls:∀ c∈ls,c<Q) (hpl:ps.length=k) (hp:∀ c∈ps,c<Q) (hv:∀ i,i<k→Cg Q (evZ (zs ps) ((i+1:Nat):Int)) ((ls.getD i 0:Nat):Int)) :
  (∀ i,k≤i→i<n→(comb Q n (fun x=>ls.getD x 0) n)[i]? = some 0) ↔ (List.range n).map (Jcz Q ps)=ls:=by
 have hq1:1<Q:=hq.1
 constructor
 ·intro hz
  have e:(comb Q n (fun x=>ls.getD x 0) n).take k=ps:=by
   refine uniqN (xs:=pls k) (by rw [List.length_take,Wn,hpl];omega) (by rw [List.length_take,Wn];simp [pls];omega) (fun c hc=>Jcx hq1 n _ n c (List.mem_of_mem_take hc)) hp (Jdp hq (by omega)) fun x hx=>?_
   obtain ⟨j,hj,rfl⟩:=List.mem_map.1 hx
   have hj:=List.mem_range.1 hj
   rw [Jcj (fun i h1 h2=>hz i h1 (by rw [Wn] at h2;exact h2))]
   exact (Wf hq hn _ j (by omega)).trans (hv j hj).symm
  refine List.ext_getElem? fun i=>?_
  by_cases hi:i<n
  ·rw [List.getElem?_map,List.getElem?_range hi]
   have hg:ls[i]? = some (ls.getD i 0):=by rw [List.getD_eq_getElem?_getD,List.getElem?_eq_getElem (by omega)];rfl
   rw [hg]
   refine congrArg some (Cg.eq (valN_lt hq1 ps i) (hls _ (List.mem_of_getElem? hg)) ((valN_cg hq1 ps i).trans ?_))
   rw [← e,Jcj (fun i h1 h2=>hz i h1 (by rw [Wn] at h2;exact h2))]
   exact Wf hq hn _ i hi
  ·rw [List.getElem?_eq_none (by simp;omega),List.getElem?_eq_none (by omega)]
 ·intro he
  have e:=Jcw hq hn (fun x=>ls.getD x 0) (ps++List.replicate (n-k) 0) (by simp [hpl];omega) (fun c hc=>by
   rcases List.mem_append.1 hc with hc | hc
   ·exact hp c hc
   ·rw [List.eq_of_mem_replicate hc];omega) fun j hj=>by
    rw [pad_ev]
    refine (valN_cg hq1 ps j).symm.trans (Cg.of_eq ?_)
    have:ls[j]? = some (Jcz Q ps j):=by rw [← he,List.getElem?_map,List.getElem?_range hj];rfl
    rw [getD_get this]
  intro i h1 h2
  rw [← e,List.getElem?_append_right (by omega),hpl,List.getElem?_replicate,if_pos (by omega)]
theorem o_eqlB {x y:Operand} {dst:Option Tmp} {ty:TypeId} {pos:String} {after:Array Edge} {guard:Option (Nat × Bool)} {ρ:Operand→Value} {w:World} {a b:Bool} (h:a=b) (hx:ρ x=.bool a) (hy:ρ y=.bool b):(execOp ρ ⟨dst,.binOp .eql 4 x y 4,ty,pos,after,guard⟩).run Try.prog w=.ok (.value (.bool true)) w:=by
 subst h;simp only [execOp,hx,hy];cases a <;> simp [go_sem]
theorem o_neqB {x y:Operand} {dst:Option Tmp} {ty:TypeId} {pos:String} {after:Array Edge} {guard:Option (Nat × Bool)} {ρ:Operand→Value} {w:World} {a b:Bool} (h:a=b) (hx:ρ x=.bool a) (hy:ρ y=.bool b):(execOp ρ ⟨dst,.binOp .neq 4 x y 4,ty,pos,after,guard⟩).run Try.prog w=.ok (.value (.bool false)) w:=by
 subst h;simp only [execOp,hx,hy];cases a <;> simp [go_sem]
set_option maxRecDepth 100000 in
set_option maxHeartbeats 800000 in
theorem dall_1 (P Q G H n capl:Nat) (pl:Option Addr) (ls:List Nat) (c:Nat) (w0:World) (hP:P<2^256) (hQ:Q<2^256) (hG:G<2^256) (hH:H<2^256) (r:RN w0.heap.size w0 pl n capl ls) (h:7<n):Calls Try.prog 4 #[grp P Q G H,.slice pl n capl,.int .u8 (c:Nat)] w0 fun e w'=>e=.returned (.bool true)∧Below w0.heap.size w0 w':=by
 refine Ka (args:=[grp P Q G H,.slice pl n capl,.int .u8 (c:Nat)]) Try.func4 rfl Try.ntmps4 (by rfl) fun a F HM=>?_
 refine Kgr ?_
 refine Jn F HM (Ja rfl _) rfl (by rfl) (Kl (F.ev rfl)) fun a w gg F HM=>?_
 refine lxv (.bool false) F (Jg rfl) fun a F=>?_
 refine Jf ?_
 refine Kgr ?_
 refine Jp F (Ja rfl _) rfl (by rfl) (Jh Try.func6 (by kernel_rfl) (by rfl) .nil _) (Uk _) fun a w z F=>?_
 replace HM:=HM.on z
 clear z
 refine lxv (.bool false) F (Wk (b:=true) (r:=false) (F.ev rfl) rfl) fun a F=>?_
 refine lxv (.bool false) F (Jb (F.ev rfl)) fun a F=>?_
 refine lxw 16 false (.slice pl n capl) F (Jb (F.ev rfl)) fun a F=>?_
 refine lxw 16 false (.int .i64 (n:Nat)) F (Ui (F.ev rfl)) fun a F=>?_
 refine lxw 16 false (.bool true) F (Um (m:=(n:Nat)) (decide_eq_true (by omega)) (F.ev rfl) rfl) fun a F=>?_
 refine lxv (.bool true) F (Jt (b:=false) (r:=.bool true) (F.ev rfl) rfl (F.ev rfl) rfl) fun a F=>?_
 refine lxv (.bool true) F (Jb (F.ev rfl)) fun a F=>?_
 refine lxp 21 true F fun a F=>?_
 refine lxp 21 true F fun a F=>?_
 refine lxp 21 true F fun a F=>?_
 refine lxv (.bool true) F (Jt (b:=true) (r:=.bool true) (F.ev rfl) rfl (F.ev rfl) rfl) fun a F=>?_
 refine lxv (.bool true) F (Jb (F.ev rfl)) fun a F=>?_
 refine lxp 26 true F fun a F=>?_
 refine lxp 26 true F fun a F=>?_
 refine lxp 26 true F fun a F=>?_
 refine lxp 26 true F fun a F=>?_
 refine lxv (.bool true) F (Jt (b:=true) (r:=.bool true) (F.ev rfl) rfl (F.ev rfl) rfl) fun a F=>?_
 refine Jf ?_
 refine Kgq ?_
 refine wp_cond_true (F.ev rfl) ?_
 refine Kgr ?_
 refine Jp F (Ja rfl _) rfl (by rfl) (Jh Try.func6 (by kernel_rfl) (by rfl) .nil _) (Uk _) fun a w z F=>?_
 replace HM:=HM.on z
 clear z
 refine lxv (.bool true) F (Jg (F.ev rfl)) fun a F=>?_
 refine Jf ?_
 refine Kgq ?_
 refine wp_ret ?_
 repeat (first | refine Ju ?_ | refine Jo ?_)
 exact Kt F HM (Kq F rfl (s:=6) rfl)

set_option maxRecDepth 100000 in
set_option maxHeartbeats 800000 in
theorem dall_2 (P Q G H n capl:Nat) (pl:Option Addr) (ls:List Nat) (c:Nat) (w0:World) (hP:P<2^256) (hQ:Q<2^256) (hG:G<2^256) (hH:H<2^256) (r:RN w0.heap.size w0 pl n capl ls) (h:n=0):Calls Try.prog 4 #[grp P Q G H,.slice pl n capl,.int .u8 (c:Nat)] w0 fun e w'=>e=.returned (.bool true)∧Below w0.heap.size w0 w':=by
 refine Ka (args:=[grp P Q G H,.slice pl n capl,.int .u8 (c:Nat)]) Try.func4 rfl Try.ntmps4 (by rfl) fun a F HM=>?_
 refine Kgr ?_
 refine Jn F HM (Ja rfl _) rfl (by rfl) (Kl (F.ev rfl)) fun a w gg F HM=>?_
 refine lxv (.bool false) F (Jg rfl) fun a F=>?_
 refine Jf ?_
 refine Kgr ?_
 refine Jp F (Ja rfl _) rfl (by rfl) (Jh Try.func6 (by kernel_rfl) (by rfl) .nil _) (Uk _) fun a w z F=>?_
 replace HM:=HM.on z
 clear z
 refine lxv (.bool false) F (Wk (b:=true) (r:=false) (F.ev rfl) rfl) fun a F=>?_
 refine lxv (.bool false) F (Jb (F.ev rfl)) fun a F=>?_
 refine lxw 16 false (.slice pl n capl) F (Jb (F.ev rfl)) fun a F=>?_
 refine lxw 16 false (.int .i64 (n:Nat)) F (Ui (F.ev rfl)) fun a F=>?_
 refine lxw 16 false (.bool false) F (Um (m:=(n:Nat)) (decide_eq_false (by omega)) (F.ev rfl) rfl) fun a F=>?_
 refine lxv (.bool false) F (Jt (b:=false) (r:=.bool false) (F.ev rfl) rfl (F.ev rfl) rfl) fun a F=>?_
 refine lxv (.bool false) F (Jb (F.ev rfl)) fun a F=>?_
 refine lxw 21 false (.slice pl n capl) F (Jb (F.ev rfl)) fun a F=>?_
 refine lxw 21 false (.int .i64 (n:Nat)) F (Ui (F.ev rfl)) fun a F=>?_
 refine lxw 21 false (.bool true) F (Kh (u:=.int .i64 (n:Nat)) (v:=.int .i64 0) (fun ρ hx hy=>by simp only [execOp,hx,hy];simp [go_sem];omega) (F.ev rfl) rfl) fun a F=>?_
 refine lxv (.bool true) F (Jt (b:=false) (r:=.bool true) (F.ev rfl) rfl (F.ev rfl) rfl) fun a F=>?_
 refine lxv (.bool true) F (Jb (F.ev rfl)) fun a F=>?_
 refine lxp 26 true F fun a F=>?_
 refine lxp 26 true F fun a F=>?_
 refine lxp 26 true F fun a F=>?_
 refine lxp 26 true F fun a F=>?_
 refine lxv (.bool true) F (Jt (b:=true) (r:=.bool true) (F.ev rfl) rfl (F.ev rfl) rfl) fun a F=>?_
 refine Jf ?_
 refine Kgq ?_
 refine wp_cond_true (F.ev rfl) ?_
 refine Kgr ?_
 refine Jp F (Ja rfl _) rfl (by rfl) (Jh Try.func6 (by kernel_rfl) (by rfl) .nil _) (Uk _) fun a w z F=>?_
 replace HM:=HM.on z
 clear z
 refine lxv (.bool true) F (Jg (F.ev rfl)) fun a F=>?_
 refine Jf ?_
 refine Kgq ?_
 refine wp_ret ?_
 repeat (first | refine Ju ?_ | refine Jo ?_)
 exact Kt F HM (Kq F rfl (s:=6) rfl)

set_option maxRecDepth 100000 in
set_option maxHeartbeats 800000 in
theorem dall_3 (P Q G H n capl:Nat) (pl:Option Addr) (ls:List Nat) (c:Nat) (w0:World) (hP:P<2^256) (hQ:Q<2^256) (hG:G<2^256) (hH:H<2^256) (r:RN w0.heap.size w0 pl n capl ls) (h7:n≤7) (h0:0<n) (hf:fineB P Q G H ls=false):Calls Try.prog 4 #[grp P Q G H,.slice pl n capl,.int .u8 (c:Nat)] w0 fun e w'=>e=.returned (.bool true)∧Below w0.heap.size w0 w':=by
 refine Ka (args:=[grp P Q G H,.slice pl n capl,.int .u8 (c:Nat)]) Try.func4 rfl Try.ntmps4 (by rfl) fun a F HM=>?_
 refine Kgr ?_
 refine Jn F HM (Ja rfl _) rfl (by rfl) (Kl (F.ev rfl)) fun a w gg F HM=>?_
 refine lxv (.bool false) F (Jg rfl) fun a F=>?_
 refine Jf ?_
 refine Kgr ?_
 refine Jp F (Ja rfl _) rfl (by rfl) (Jh Try.func6 (by kernel_rfl) (by rfl) .nil _) (Uk _) fun a w z F=>?_
 replace HM:=HM.on z
 clear z
 refine lxv (.bool false) F (Wk (b:=true) (r:=false) (F.ev rfl) rfl) fun a F=>?_
 refine lxv (.bool false) F (Jb (F.ev rfl)) fun a F=>?_
 refine lxw 16 false (.slice pl n capl) F (Jb (F.ev rfl)) fun a F=>?_
 refine lxw 16 false (.int .i64 (n:Nat)) F (Ui (F.ev rfl)) fun a F=>?_
 refine lxw 16 false (.bool false) F (Um (m:=(n:Nat)) (decide_eq_false (by omega)) (F.ev rfl) rfl) fun a F=>?_
 refine lxv (.bool false) F (Jt (b:=false) (r:=.bool false) (F.ev rfl) rfl (F.ev rfl) rfl) fun a F=>?_
 refine lxv (.bool false) F (Jb (F.ev rfl)) fun a F=>?_
 refine lxw 21 false (.slice pl n capl) F (Jb (F.ev rfl)) fun a F=>?_
 refine lxw 21 false (.int .i64 (n:Nat)) F (Ui (F.ev rfl)) fun a F=>?_
 refine lxw 21 false (.bool false) F (Kh (u:=.int .i64 (n:Nat)) (v:=.int .i64 0) (fun ρ hx hy=>by simp only [execOp,hx,hy];simp [go_sem];omega) (F.ev rfl) rfl) fun a F=>?_
 refine lxv (.bool false) F (Jt (b:=false) (r:=.bool false) (F.ev rfl) rfl (F.ev rfl) rfl) fun a F=>?_
 refine lxv (.bool false) F (Jb (F.ev rfl)) fun a F=>?_
 refine lxw 26 false (grp P Q G H) F (Jr (F.ev rfl) (HM.get 0 rfl)) fun a F=>?_
 refine lxw 26 false (.slice pl n capl) F (Jb (F.ev rfl)) fun a F=>?_
 refine Jp F (F.want (t:=26) (c:=false) rfl rfl rfl (by rfl) rfl) rfl (by rfl) (Jh Try.func7 (by kernel_rfl) (by rfl) (.cons (F.ev rfl) (.cons (F.ev rfl) .nil)) _) (Jdw P Q G H n capl pl ls hP hQ hG hH _ (r.call HM.bel HM.bel.size) hf) fun a w z F=>?_
 replace HM:=HM.on z
 clear z
 refine lxw 26 false (.bool true) F (Wk (b:=false) (r:=true) (F.ev rfl) rfl) fun a F=>?_
 refine lxv (.bool true) F (Jt (b:=false) (r:=.bool true) (F.ev rfl) rfl (F.ev rfl) rfl) fun a F=>?_
 refine Jf ?_
 refine Kgq ?_
 refine wp_cond_true (F.ev rfl) ?_
 refine Kgr ?_
 refine Jp F (Ja rfl _) rfl (by rfl) (Jh Try.func6 (by kernel_rfl) (by rfl) .nil _) (Uk _) fun a w z F=>?_
 replace HM:=HM.on z
 clear z
 refine lxv (.bool true) F (Jg (F.ev rfl)) fun a F=>?_
 refine Jf ?_
 refine Kgq ?_
 refine wp_ret ?_
 repeat (first | refine Ju ?_ | refine Jo ?_)
 exact Kt F HM (Kq F rfl (s:=6) rfl)

set_option maxRecDepth 100000 in
set_option maxHeartbeats 800000 in
theorem dall_4 (P Q G H n capl:Nat) (pl:Option Addr) (ls:List Nat) (c:Nat) (w0:World) (hP:P<2^256) (hQ:Q<2^256) (hG:G<2^256) (hH:H<2^256) (r:RN w0.heap.size w0 pl n capl ls) (hc:c<256) (h7:n≤7) (h0:0<n) (hf:fineB P Q G H ls=true):Calls Try.prog 4 #[grp P Q G H,.slice pl n capl,.int .u8 (c:Nat)] w0 fun e w'=>e=.returned (.bool true)∧Below w0.heap.size w0 w':=by
 obtain ⟨gl,ol,rfl,hil,hxb,hcl⟩:=r.get h0
 have hn7:n≤7:=h7
 obtain ⟨gd,hQ7,hQs,hw0,hls⟩:=fine_gd hP hQ hG hH hf
 have hq1:1<Q:=gd.pri.1
 have hcap:n≤capl:=by have:=r.2.1;rw [r.1] at this;exact this
 refine Ka (args:=[grp P Q G H,.slice (some ⟨gl,ol,none⟩) n capl,.int .u8 (c:Nat)]) Try.func4 rfl Try.ntmps4 (by rfl) fun a F HM=>?_
 refine Kgr ?_
 refine Jn F HM (Ja rfl _) rfl (by rfl) (Kl (F.ev rfl)) fun a w gg F HM=>?_
 refine lxv (.bool false) F (Jg rfl) fun a F=>?_
 refine Jf ?_
 refine Kgr ?_
 refine Jp F (Ja rfl _) rfl (by rfl) (Jh Try.func6 (by kernel_rfl) (by rfl) .nil _) (Uk _) fun a w z F=>?_
 replace HM:=HM.on z
 clear z
 refine lxv (.bool false) F (Wk (b:=true) (r:=false) (F.ev rfl) rfl) fun a F=>?_
 refine lxv (.bool false) F (Jb (F.ev rfl)) fun a F=>?_
 refine lxw 16 false (.slice (some ⟨gl,ol,none⟩) n capl) F (Jb (F.ev rfl)) fun a F=>?_
 refine lxw 16 false (.int .i64 (n:Nat)) F (Ui (F.ev rfl)) fun a F=>?_
 refine lxw 16 false (.bool false) F (Um (m:=(n:Nat)) (decide_eq_false (by omega)) (F.ev rfl) rfl) fun a F=>?_
 refine lxv (.bool false) F (Jt (b:=false) (r:=.bool false) (F.ev rfl) rfl (F.ev rfl) rfl) fun a F=>?_
 refine lxv (.bool false) F (Jb (F.ev rfl)) fun a F=>?_
 refine lxw 21 false (.slice (some ⟨gl,ol,none⟩) n capl) F (Jb (F.ev rfl)) fun a F=>?_
 refine lxw 21 false (.int .i64 (n:Nat)) F (Ui (F.ev rfl)) fun a F=>?_
 refine lxw 21 false (.bool false) F (Kh (u:=.int .i64 (n:Nat)) (v:=.int .i64 0) (fun ρ hx hy=>by simp only [execOp,hx,hy];simp [go_sem];omega) (F.ev rfl) rfl) fun a F=>?_
 refine lxv (.bool false) F (Jt (b:=false) (r:=.bool false) (F.ev rfl) rfl (F.ev rfl) rfl) fun a F=>?_
 refine lxv (.bool false) F (Jb (F.ev rfl)) fun a F=>?_
 refine lxw 26 false (grp P Q G H) F (Jr (F.ev rfl) (HM.get 0 rfl)) fun a F=>?_
 refine lxw 26 false (.slice (some ⟨gl,ol,none⟩) n capl) F (Jb (F.ev rfl)) fun a F=>?_
 refine Jp F (F.want (t:=26) (c:=false) rfl rfl rfl (by rfl) rfl) rfl (by rfl) (Jh Try.func7 (by kernel_rfl) (by rfl) (.cons (F.ev rfl) (.cons (F.ev rfl) .nil)) _) (Jdw P Q G H n capl _ ls hP hQ hG hH _ (r.call HM.bel HM.bel.size) hf) fun a w z F=>?_
 replace HM:=HM.on z
 clear z
 refine lxw 26 false (.bool false) F (Wk (b:=true) (r:=false) (F.ev rfl) rfl) fun a F=>?_
 refine lxv (.bool false) F (Jt (b:=false) (r:=.bool false) (F.ev rfl) rfl (F.ev rfl) rfl) fun a F=>?_
 refine Jf ?_
 refine Kgq ?_
 refine wp_cond_false (F.ev rfl) ?_
 refine Kgr ?_
 refine lxv (.int .u8 (c:Nat)) F (Jb (F.ev rfl)) fun a F=>?_
 refine lxv (.int .i64 (c:Nat)) F (o_conv8 hc (F.ev rfl)) fun a F=>?_
 refine lxv (.slice (some ⟨gl,ol,none⟩) n capl) F (Jb (F.ev rfl)) fun a F=>?_
 refine lxv (.int .i64 (n:Nat)) F (Ui (F.ev rfl)) fun a F=>?_
 refine lxv (.int .i64 ((c%n:Nat):Int)) F (o_remI (by omega) h0 (by omega) (F.ev rfl) (F.ev rfl)) fun a F=>?_
 refine lxv (.int .i64 ((1+c%n:Nat):Int)) F (o_addI (m:=1) (by have:=Nat.mod_lt c h0;omega) rfl (F.ev rfl)) fun a F=>?_
 refine lxv (.int .i64 ((1+c%n:Nat):Int)) F (Jg (F.ev rfl)) fun a F=>?_
 refine Jf ?_
 have hk1:1≤1+c%n:=by omega
 have hkn:1+c%n≤n:=by have:=Nat.mod_lt c h0;omega
 generalize 1+c%n=k at *
 refine Kgr ?_
 refine lxv (.slice none 0 0) F (Jg rfl) fun a F=>?_
 refine Jf ?_
 refine Kgr ?_
 refine lxv (.int .i64 1) F (Jg rfl) fun a F=>?_
 refine Jf ?_
 refine Kgq ?_
 refine wp_loop (fun a w=>∃ (i:Nat) (v:Value) (R:List (Nat × TypeId × Array Value)),i≤k∧LR R v (Jax Q i)∧Fr a 83 [(9,.int .i64 ((i+1:Nat):Int)),(8,v),(7,.int .i64 (k:Nat)),(1,.slice (some ⟨gl,ol,none⟩) n capl),(3,.pointer (some ⟨gg,0,none⟩))] []∧Mem w0.heap.size w0 w ((gg,26,gcs P Q G H)::R)) (fun a _=>k+1-(intOf (a.tmps.getD 9 undef)).toNat) ⟨0,_,[],Nat.zero_le _,LR.nil _,F.sub [9,8,7,1,3],HM⟩ ?_
 clear F HM
 rintro aS wS ⟨i,v,R,hi,lv,FS,HM⟩
 have F:=FS
 by_cases hlt:i<k
 ·refine Kgr ?_
  refine lxv (.int .i64 ((i+1:Nat):Int)) F (Jb (F.ev rfl)) fun a F=>?_
  refine lxv (.int .i64 (k:Nat)) F (Jb (F.ev rfl)) fun a F=>?_
  refine lxv (.bool true) F (Kh (u:=.int .i64 ((i+1:Nat):Int)) (v:=.int .i64 (k:Nat)) (fun ρ hx hy=>by simp only [execOp,hx,hy];simp [go_sem];omega) (F.ev rfl) (F.ev rfl)) fun a F=>?_
  refine Jf ?_
  refine Kgq ?_
  refine wp_cond_true (F.ev rfl) ?_
  refine Kgr ?_
  refine lxv v F (Jb (F.ev rfl)) fun a F=>?_
  refine lxv (grp P Q G H) F (Jr (F.ev rfl) (HM.get 0 rfl)) fun a F=>?_
  refine lxv (.int .i64 ((i+1:Nat):Int)) F (Jb (F.ev rfl)) fun a F=>?_
  refine Jp F (Ja rfl _) rfl (by rfl) (Jh Try.func11 (by kernel_rfl) (by rfl) (.cons (F.ev rfl) (.cons (F.ev rfl) .nil)) _) ((fun w=>Jaf P Q G H ((i+1:Nat):Int) hQ (by omega) (by omega) w) _) fun a w z F=>?_
  replace HM:=HM.on z
  clear z
  refine Xx F HM (Ja rfl _) rfl (by rfl) (Vn (F.ev rfl)) fun a w gy F HM=>?_
  obtain ⟨v2,w2,hrun,R,HM2,l2,lk2⟩:=Jgs (ρ:=a.eval) (s:=.tmp 44) (x:=.tmp 48) (A:=[(gy,24,(Xi ((Ki Q ((i+1:Nat):Int))))),(gg,26,gcs P Q G H)]) HM lv (F.ev rfl) (F.ev rfl) rfl ((Pf.one (Ki Q ((i+1:Nat):Int))).lie (HM.get 0 rfl)) (by simp) (by simp [Jax];omega)
  replace HM:=HM2;have lv:=l2
  refine Uy (v:=v2) F (Ja rfl _) rfl (by rfl) hrun fun a F=>?_
  refine lxv v2 F (Jg (F.ev rfl)) fun a F=>?_
  refine Jf ?_
  replace HM:=HM.erase 0 (M2:=((gg,26,gcs P Q G H)::R)) rfl
  refine Kgr ?_
  refine lxv (.int .i64 ((i+1:Nat):Int)) F (Jb (F.ev rfl)) fun a F=>?_
  refine lxv (.int .i64 ((i+1+1:Nat):Int)) F (Kh (u:=.int .i64 ((i+1:Nat):Int)) (v:=.int .i64 1) (fun ρ hx hy=>by simp only [execOp,hx,hy];simp [go_sem];exact Jed (m:=i+1+1) (by omega)) (F.ev rfl) rfl) fun a F=>?_
  refine lxv (.int .i64 ((i+1+1:Nat):Int)) F (Jg (F.ev rfl)) fun a F=>?_
  refine Jf ?_
  refine Jv ?_
  have hl2:Jax Q (i+1)=Jax Q i++[Ki Q ((i+1:Nat):Int)]:=by unfold Jax;rw [List.range_succ,List.map_append];rfl
  refine ⟨⟨i+1,_,_,by omega,by rw [hl2];exact lv,F.sub [9,8,7,1,3],HM⟩,?_⟩
  ·show k+1-(intOf (a.tmps.getD 9 undef)).toNat<k+1-(intOf (aS.tmps.getD 9 undef)).toNat
   rw [F.get 9 _ rfl,FS.get 9 _ rfl]
   show k+1-((i+1+1:Nat):Int).toNat<k+1-((i+1:Nat):Int).toNat
   omega
 ·refine Kgr ?_
  refine lxv (.int .i64 ((i+1:Nat):Int)) F (Jb (F.ev rfl)) fun a F=>?_
  refine lxv (.int .i64 (k:Nat)) F (Jb (F.ev rfl)) fun a F=>?_
  refine lxv (.bool false) F (Kh (u:=.int .i64 ((i+1:Nat):Int)) (v:=.int .i64 (k:Nat)) (fun ρ hx hy=>by simp only [execOp,hx,hy];simp [go_sem];omega) (F.ev rfl) (F.ev rfl)) fun a F=>?_
  refine Jf ?_
  refine Kgq ?_
  refine wp_cond_false (F.ev rfl) ?_
  refine Kgq ?_
  refine wp_exit ?_
  repeat (first | refine Us ?_ | refine Un ?_)
  have hik:i=k:=by omega
  rw [hik] at lv
  clear hik
  obtain ⟨av,cv,rfl⟩:=lv.form
  have hle:(Jax Q k).length=k:=by simp [Jax]
  rw [hle] at F lv
  have hrp:=lv.rn HM (fun x hx=>by simp [hx]) (fun x hx=>Nat.lt_trans (Jfq hq1 x hx) hQ)
  refine Kgq ?_
  refine Km (S:=fun w'=>Mem _ _ w' ((gg,26,gcs P Q G H)::R)) HM (fun _ h=>h) (by kernel_rfl) fun w HM HBW=>?_
  try replace hrp:=hrp.call HBW HBW.size
  clear HBW
  try simp only [List.append_eq,List.cons_append,List.nil_append]
  refine Kr [⟨0,51,[],.val (grp P Q G H),true⟩,
   ⟨1,52,[0],.val (.slice av k cv),true⟩,
   ⟨2,53,[1],.val (.slice (some ⟨gl,ol,none⟩) n capl),true⟩,
   ⟨3,54,[2],.val (.int .i64 (k:Nat)),true⟩,
   ⟨4,55,[2,3],.val (.slice (some ⟨gl,ol,none⟩) k capl),true⟩] 6 _ F HM (fun _ h=>h.subl (by first | exact List.Sublist.refl _ | (repeat (first | exact List.Sublist.refl _ | refine List.Sublist.cons_cons _ ?_ | refine List.Sublist.cons _ ?_)))) (by kernel_rfl) (by rfl) ?_ ?_ ?_ ?_ ?_ ?_ ?_
  ·kernel_rfl
  ·exact of_decide_eq_true (by kernel_rfl)
  ·(repeat refine all_cons ⟨_,by rfl,by rfl⟩ ?_);exact Jj
  ·kernel_rfl
  ·(repeat (refine all_cons ?_ ?_;rotate_left));exact Jj
   ·exact Uh _ _ _ _ _ _ _ (by rfl) (by rfl) Ji (fun ρ w kn hs=>Jr (kn _ _ (F.old (by rfl) rfl)) (hs.get 0 rfl))
   ·exact Uh _ _ _ _ _ _ _ (by rfl) (by rfl) Ji (fun ρ w kn hs=>Jb (kn _ _ (F.old (by rfl) rfl)))
   ·exact Uh _ _ _ _ _ _ _ (by rfl) (by rfl) Ji (fun ρ w kn hs=>Jb (kn _ _ (F.old (by rfl) rfl)))
   ·exact Uh _ _ _ _ _ _ _ (by rfl) (by rfl) Ji (fun ρ w kn hs=>Jb (kn _ _ (F.old (by rfl) rfl)))
   ·exact crS (fun ρ w kn hs=>o_cutK hkn hcap (kn _ _ (kc 2 53)) (kn _ _ (kc 3 54)))
  ·(repeat (refine all_cons ?_ ?_;rotate_left));exact Jj
   all_goals try exact sA
  intro gs rs a w hgs hrs F HM HBW HR HO HT
  obtain rfl:=nl0 rs hrs
  obtain rfl:=nl0 gs hgs
  try replace hrp:=hrp.call HBW HBW.size
  clear hrs hgs HR HBW HO
  clear HT
  refine Jdj (i:=5) F (by kernel_rfl) (by rfl) rfl rfl (by rfl) (Jh Try.func12 (by kernel_rfl) (by rfl) (.cons (F.ev rfl) (.cons (F.ev rfl) (.cons (F.ev rfl) .nil))) _) (thr_ok12 P Q G H k cv k capl av (some ⟨gl,ol,none⟩) (Jax Q k) (ls.take k) _ hQ hrp ((r.call HM.bel HM.bel.size).take hkn) (by omega) (pts_thr (by omega) hq1 hk1 _ (by rw [List.length_take,r.1];omega) (fun v hv=>hls v (List.mem_of_mem_take hv))) (pts_D gd.pri (by omega))) (fun _ _ h=>(HM.on h.1)) fun a w u hu F=>?_
  obtain ⟨z,gp,ps,cs,rfl,hg,hat,hpp,hts⟩:=hu
  have hne:=Jcy HM hg
  have hge:=Nat.le_trans (Nat.le_trans HM.le HM.bel.size) hg
  replace HM:=(HM.on z).add hge (fun x hx=>hne x hx) hat
  clear hne hge hg z hat
  refine Kr [⟨6,50,[],.val (.tuple #[.slice (some ⟨gp,0,none⟩) k k,.int .i64 0]),true⟩,
   ⟨7,57,[0],.val (.slice (some ⟨gp,0,none⟩) k k),true⟩,
   ⟨8,58,[0,1],.val (.int .i64 0),true⟩] 2 _ F HM (fun _ h=>h.subl (by first | exact List.Sublist.refl _ | (repeat (first | exact List.Sublist.refl _ | refine List.Sublist.cons_cons _ ?_ | refine List.Sublist.cons _ ?_)))) (by kernel_rfl) (by rfl) ?_ ?_ ?_ ?_ ?_ ?_ ?_
  ·kernel_rfl
  ·exact of_decide_eq_true (by kernel_rfl)
  ·(repeat refine all_cons ⟨_,by rfl,by rfl⟩ ?_);exact Jj
  ·kernel_rfl
  ·(repeat (refine all_cons ?_ ?_;rotate_left));exact Jj
   ·exact Uh _ _ _ _ _ _ _ (by rfl) (by rfl) Ji (fun ρ w kn hs=>Jb (kn _ _ (F.old (by rfl) rfl)))
   ·exact crS (fun ρ w kn hs=>Jk (kn _ _ (kc 0 50)) rfl)
   ·exact crS (fun ρ w kn hs=>Jk (kn _ _ (kc 0 50)) rfl)
  ·(repeat (refine all_cons ?_ ?_;rotate_left));exact Jj
   all_goals try exact sA
  intro gs rs a w hgs hrs F HM HBW HR HO HT
  obtain rfl:=nl0 rs hrs
  obtain rfl:=nl0 gs hgs
  try replace hrp:=hrp.call HBW HBW.size
  clear hrs hgs HR HBW HO
  clear HT
  refine Kj (i:=9) (d:=10) (x:=.tmp 57) (v:=.slice (some ⟨gp,0,none⟩) k k) F ((HM.subl (by first | exact List.Sublist.refl _ | (repeat (first | exact List.Sublist.refl _ | refine List.Sublist.cons_cons _ ?_ | refine List.Sublist.cons _ ?_))))) (by kernel_rfl) (by rfl) (by rfl) (F.ev rfl) fun a F=>?_
  refine Kj (i:=10) (d:=11) (x:=.tmp 58) (v:=.int .i64 0) F ((HM.subl (by first | exact List.Sublist.refl _ | (repeat (first | exact List.Sublist.refl _ | refine List.Sublist.cons_cons _ ?_ | refine List.Sublist.cons _ ?_))))) (by kernel_rfl) (by rfl) (by rfl) (F.ev rfl) fun a F=>?_
  refine Ua (by kernel_rfl) ?_ _
  have hpl:ps.length=k:=by rw [hts.1];simp [Jax]
  have hpol:Jff Q ps=true:=polB_iff.2 ⟨hq1,hts.2.1⟩
  obtain ⟨b,hb⟩:∃ b:Bool,(b=true ↔ ∀ i,k≤i→i<n→(comb Q n (fun x=>ls.getD x 0) n)[i]? = some 0):=by classical exact ⟨decide _,decide_eq_true_iff⟩
  obtain ⟨b2,hb2⟩:∃ b2,decide ((List.range n).map (Jcz Q ps)=ls)=b2:=⟨_,rfl⟩
  have hbb:b=b2:=by
   rw [Bool.eq_iff_iff,hb,← hb2,decide_eq_true_iff]
   refine pol_iff gd.pri (by omega) hkn ls ps r.1 hls hpl hts.2.1 fun i hi=>ts_val hq1 hts hi ?_
   rw [List.getElem?_take,if_pos hi,List.getD_eq_getElem?_getD,List.getElem?_eq_getElem (by rw [r.1];omega)];rfl
  refine Kgr ?_
  refine lxv (grp P Q G H) F (Jr (F.ev rfl) (HM.get 1 rfl)) fun a F=>?_
  refine lxv (.slice (some ⟨gl,ol,none⟩) n capl) F (Jb (F.ev rfl)) fun a F=>?_
  refine lxv (.int .i64 (k:Nat)) F (Jb (F.ev rfl)) fun a F=>?_
  refine Jp F (Ja rfl _) rfl (by rfl) (Jh Try.func9 (by kernel_rfl) (by rfl) (.cons (F.ev rfl) (.cons (F.ev rfl) (.cons (F.ev rfl) .nil))) _) (Jdq (b:=b) gd H n capl k _ ls (comb Q n (fun x=>ls.getD x 0) n) _ hQ7 h7 hk1 hkn (r.call HM.bel HM.bel.size) (Wn _ _ _ _) (Jcx hq1 _ _ _) (fun x hx=>Wf gd.pri (by omega) _ x hx) hb) fun a w z F=>?_
  replace HM:=HM.on z
  clear z
  refine lxv (.tuple #[.bool b,.int .i64 0]) F (Jb (F.ev rfl)) fun a F=>?_
  refine lxv (.bool b) F (Jk (F.ev rfl) rfl) fun a F=>?_
  refine lxv (.int .i64 0) F (Jk (F.ev rfl) rfl) fun a F=>?_
  refine lxv (.bool b) F (Jg (F.ev rfl)) fun a F=>?_
  refine lxv (.int .i64 0) F (Jg (F.ev rfl)) fun a F=>?_
  refine Jf ?_
  refine Kgr ?_
  refine lxv (.int .i64 0) F (Jb (F.ev rfl)) fun a F=>?_
  refine lxv (.bool true) F (Kh (u:=.int .i64 0) (v:=.int .i64 0) (fun ρ hx hy=>by simp only [execOp,hx,hy];simp [go_sem]) (F.ev rfl) rfl) fun a F=>?_
  refine lxv (.bool true) F (Jb (F.ev rfl)) fun a F=>?_
  refine lxw 68 true (.int .i64 0) F (Jb (F.ev rfl)) fun a F=>?_
  refine lxw 68 true (.bool true) F (Kh (u:=.int .i64 0) (v:=.int .i64 0) (fun ρ hx hy=>by simp only [execOp,hx,hy];simp [go_sem]) (F.ev rfl) rfl) fun a F=>?_
  refine lxv (.bool true) F (Jt (b:=true) (r:=.bool true) (F.ev rfl) (F.ev rfl) rfl rfl) fun a F=>?_
  refine lxv (.bool true) F (Jb (F.ev rfl)) fun a F=>?_
  refine lxw 72 true (.bool b) F (Jb (F.ev rfl)) fun a F=>?_
  refine lxw 72 true (grp P Q G H) F (Jr (F.ev rfl) (HM.get 1 rfl)) fun a F=>?_
  refine lxw 72 true (.slice (some ⟨gp,0,none⟩) k k) F (Jb (F.ev rfl)) fun a F=>?_
  refine lxw 72 true (.slice (some ⟨gl,ol,none⟩) n capl) F (Jb (F.ev rfl)) fun a F=>?_
  refine lxw 72 true (.int .i64 (n:Nat)) F (Ui (F.ev rfl)) fun a F=>?_
  refine Xf F (F.want (t:=72) (c:=true) rfl rfl rfl (by rfl) rfl) rfl (by rfl) (Jh Try.func8 (by kernel_rfl) (by rfl) (.cons (F.ev rfl) (.cons (F.ev rfl) (.cons (F.ev rfl) .nil))) _) (values_any12 P Q G H k n k _ ps _ hQ (by omega) hpol (hpp.rsA (HM.get 0 rfl) hpl (Nat.le_refl _) (by omega) (fun x hx=>Nat.lt_trans (hts.2.1 x hx) hQ))) fun a w u hu F=>?_
  obtain ⟨z,hnr⟩:=hu
  replace HM:=HM.on z
  clear z
  obtain ⟨av2,cv2,rfl,hrv⟩:=hnr.rnD (by intro e;have:=congrArg List.length e;simp at this;omega) (fun x hx=>by obtain ⟨y,_,rfl⟩:=List.mem_map.1 hx;exact Nat.lt_trans (valN_lt hq1 ps y) hQ)
  have hlv:((List.range n).map (Jcz Q ps)).length=n:=by simp
  rw [hlv] at F hrv
  refine lxw 72 true (.slice (some ⟨gl,ol,none⟩) n capl) F (Jb (F.ev rfl)) fun a F=>?_
  refine Jp F (F.want (t:=72) (c:=true) rfl rfl rfl (by rfl) rfl) rfl (by rfl) (Jh Try.func13 (by kernel_rfl) (by rfl) (.cons (F.ev rfl) (.cons (F.ev rfl) .nil)) _) (same_b n cv2 n capl _ _ _ ls _ hb2 hrv (r.call HM.bel HM.bel.size)) fun a w z F=>?_
  replace HM:=HM.on z
  clear z
  refine lxw 72 true (.bool true) F (o_eqlB hbb (F.ev rfl) (F.ev rfl)) fun a F=>?_
  refine lxv (.bool true) F (Jt (b:=true) (r:=.bool true) (F.ev rfl) (F.ev rfl) rfl rfl) fun a F=>?_
  refine lxv (.bool true) F (Jg (F.ev rfl)) fun a F=>?_
  refine Jf ?_
  refine Kgq ?_
  refine wp_ret ?_
  repeat (first | refine Ju ?_ | refine Jo ?_)
  exact Kt F HM (Kq F rfl (s:=6) rfl)

theorem dall_walk (P Q G H n capl:Nat) (pl:Option Addr) (ls:List Nat) (c:Nat) (w0:World) (hP:P<2^256) (hQ:Q<2^256) (hG:G<2^256) (hH:H<2^256) (r:RN w0.heap.size w0 pl n capl ls) (hc:c<256):Calls Try.prog 4 #[grp P Q G H,.slice pl n capl,.int .u8 (c:Nat)] w0 fun e w'=>e=.returned (.bool true)∧Below w0.heap.size w0 w':=by
 by_cases h7:7<n
 ·exact dall_1 P Q G H n capl pl ls c w0 hP hQ hG hH r h7
 ·by_cases h0:n=0
  ·exact dall_2 P Q G H n capl pl ls c w0 hP hQ hG hH r h0
  ·rcases hf:fineB P Q G H ls with _ | _
   ·exact dall_3 P Q G H n capl pl ls c w0 hP hQ hG hH r (by omega) (by omega) hf
   ·exact dall_4 P Q G H n capl pl ls c w0 hP hQ hG hH r hc (by omega) (by omega) hf
end Go.Proofs.Ytcbnmdkmfdjpiaa
