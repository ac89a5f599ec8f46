import Derived.Deep.Cut
import Derived.Test.YtcbnmdkmfdjpiaaPDu9
import Derived.Test.YtcbnmdkmfdjpiaaPShort
namespace Go.Proofs.Ytcbnmdkmfdjpiaa
set_option maxRecDepth 100000
open Go.RowKit
set_option linter.unusedSimpArgs false
set_option linter.unusedVariables false
attribute [local go_sem ↓] Go.wp_at_zero Go.wp_at_succ

theorem U_neg {Q:Nat} {a:Int}:U Q a→U Q (-a)
 | ⟨b,h⟩=>⟨-b,(Cg.of_eq (by grind)).trans h⟩
theorem U_small {Q:Nat} (hq:Pr.Pri Q) {z:Int} (h0:z≠0) (h:z.natAbs<Q):U Q z:=by
 have h1:1<Q:=hq.1
 have hg:Nat.gcd z.natAbs Q=1:=by
  rcases hq.2 _ (Nat.gcd_dvd_right z.natAbs Q) with e | e
  ·exact e
  ·have:=Nat.le_of_dvd (by omega) (e ▸ Nat.gcd_dvd_left z.natAbs Q)
   omega
 have hu:=U.of_gcd h1 hg
 rcases Int.natAbs_eq z with e | e
 ·rw [e];exact hu
 ·rw [e];exact U_neg hu
def pls (n:Nat):List Int:=(List.range n).map fun x=>((x+1:Nat):Int)
theorem Jdg {Q n:Nat} (hq:Pr.Pri Q) (hn:n<Q):(pls n).Pairwise fun a b=>U Q (b-a):=by
 unfold pls
 rw [List.pairwise_map]
 refine List.Pairwise.imp_of_mem ?_ List.pairwise_lt_range
 intro a b ha hb hab
 have:=List.mem_range.1 hb
 exact U_small hq (by omega) (by omega)
theorem Dn_unit {Q n x:Nat} (hq:Pr.Pri Q) (hn:n<Q) (hx:x<n):U Q ((Dn Q n x:Nat):Int):=by
 refine U.cg (Xd hq.1 _).symm (Jck fun y hy=>?_)
 rw [List.mem_filter,decide_eq_true_iff] at hy
 obtain ⟨hm,hne⟩:=hy
 obtain ⟨z,hz,rfl⟩:=List.mem_map.1 hm
 have:=List.mem_range.1 hz
 exact U_small hq (by omega) (by omega)
theorem Jft {Q n x:Nat} (hq:Pr.Pri Q) (hn:n<Q) (hx:x<n):Nat.gcd (Dn Q n x) Q=1:=U.gcd hq.1 (Dn_unit hq hn hx)
theorem unB_good {Q n:Nat} (hq:Pr.Pri Q) (hn:n<Q):unB Q n=true:=unB_iff.2 fun x hx=>Jft hq hn hx
theorem wE_good {Q n:Nat} (hq:Pr.Pri Q) (hn:n<Q):wE Q n=0:=by
 have h1:1<Q:=hq.1
 unfold wE;rw [if_pos h1,if_pos (unB_good hq hn)]
noncomputable def tN (Q n x:Nat):Nat:=invN Q (Dn Q n x)
theorem tN_is {Q n x:Nat} (hq:Pr.Pri Q) (hn:n<Q) (hx:x<n):Cg Q (((Dn Q n x:Nat):Int)*((tN Q n x:Nat):Int)) 1:=by
 obtain ⟨_,h⟩:=Jeo (Jfn hq.1 (Jft hq hn hx))
 refine Cg.of_mod ?_
 rw [← Int.natCast_mul,← Int.natCast_emod]
 unfold tN
 rw [h,Int.emod_eq_of_lt (by decide) (by have:=hq.1;omega)];rfl
def Jcq (f:Nat→Int):Nat→Int
 | 0=>0
 | n+1=>Jcq f n+f n
theorem Jcf {Q:Nat} {f h:Nat→Int}:∀ n,(∀ x,x<n→Cg Q (f x) (h x))→Cg Q (Jcq f n) (Jcq h n)
 | 0,_=>Cg.refl _ _
 | n+1,k=>(Jcf n fun x hx=>k x (by omega)).add (k n (by omega))
theorem sumR_one {f:Nat→Int} {j:Nat}:∀ n,j<n→(∀ x,x<n→x≠j→f x=0)→Jcq f n=f j
 | 0,h,_=>by omega
 | n+1,h,k=>by
  have z:∀ m,m≤n→(∀ x,x<m→f x=0)→Jcq f m=0:=by
   intro m
   induction m with
   | zero=>intro _ _;rfl
   | succ m ih=>intro hm hz;rw [Jcq,ih (by omega) fun x hx=>hz x (by omega),hz m (by omega)];rfl
  by_cases e:j=n
  ·subst e;rw [Jcq,z j (by omega) fun x hx=>k x (by omega) (by omega)];omega
  ·rw [Jcq,sumR_one n (by omega) fun x hx hj=>k x (by omega) hj,k n (by omega) (by omega)];omega
def nod (Q:Nat):List Nat→List Nat
 | []=>[1]
 | x::xs=>nz Q (nod Q xs) (x+1)
theorem Jek (Q:Nat):∀ xs,(nod Q xs).length=xs.length+1
 | []=>rfl
 | x::xs=>by rw [nod,nz_len,Jek Q xs];rfl
theorem Jfj {Q:Nat} (h:1<Q) (y:Int):∀ xs,Cg Q (evZ (zs (nod Q xs)) y) (prZ y (xs.map fun x=>((x+1:Nat):Int)))
 | []=>Cg.of_eq (by simp [nod,zs,evZ,prZ])
 | x::xs=>(nz_ev h (nod Q xs) (x+1) y).trans (Cg.mulL _ (Jfj h y xs))
theorem nod_last {Q:Nat} (h:1<Q):∀ xs:List Nat,(nod Q xs)[xs.length]? = some 1
 | []=>rfl
 | x::xs=>by
  rw [nod,nz,Jdt Q _ _ _ _ (by rw [Jek];exact Nat.le_refl _),List.length_cons,List.getElem?_cons_succ]
  exact nod_last h xs
theorem addT_get (Q:Nat):∀ (p o:List Nat) (t i c d:Nat),p[i]? = some c→o[i]? = some d→(Jeg Q p o t)[i]? = some ((d*t%Q+c)%Q)
 | [],_,_,_,_,_,h,_=>by simp at h
 | _::_,[],_,_,_,_,_,h=>by simp at h
 | c::p,d::o,t,0,_,_,h,k=>by simp at h k;subst h k;simp [Jeg]
 | c::p,d::o,t,i+1,_,_,h,k=>by simp only [Jeg,List.getElem?_cons_succ] at h k ⊢;exact addT_get Q p o t i _ _ h k
def Jfg (n x:Nat):List Nat:=(List.range n).filter fun y=>decide (y≠x)
theorem oths_len {n x:Nat} (hx:x<n):(Jfg n x).length=n-1:=by
 have h:Jfg n x=(List.range n).erase x:=by
  rw [List.Nodup.erase_eq_filter List.nodup_range]
  unfold Jfg
  exact List.filter_congr fun y _=>by by_cases e:y=x <;> simp [e]
 rw [h,List.length_erase_of_mem (List.mem_range.2 hx),List.length_range]
theorem oths_map (n x:Nat):(Jfg n x).map (fun x=>((x+1:Nat):Int))=((List.range n).map fun x=>((x+1:Nat):Int)).filter fun y=>decide (y≠((x+1:Nat):Int)):=by
 rw [List.filter_map]
 unfold Jfg
 congr 1
 exact List.filter_congr fun y _=>by
  by_cases e:y=x
  ·subst e;simp
  ·have:¬ ((y+1:Nat):Int)=((x+1:Nat):Int):=by omega
   simp [e];omega
theorem oths_ev {Q n:Nat} (h:1<Q) (x j:Nat) (hj:j<n):(x≠j→Cg Q (evZ (zs (nod Q (Jfg n x))) ((j+1:Nat):Int)) 0)∧(x=j→Cg Q (evZ (zs (nod Q (Jfg n x))) ((j+1:Nat):Int)) ((Dn Q n x:Nat):Int)):=by
 refine ⟨fun hne=>?_,fun e=>?_⟩
 ·refine (Jfj h _ _).trans (Cg.of_eq (Jej ?_))
  exact List.mem_map.2 ⟨j,List.mem_filter.2 ⟨List.mem_range.2 hj,by simpa using fun e=>hne e.symm⟩,rfl⟩
 ·subst e
  refine (Jfj h _ _).trans ?_
  rw [oths_map]
  exact (Xd h _).symm
noncomputable def comb (Q n:Nat) (l:Nat→Nat):Nat→List Nat
 | 0=>List.replicate n 0
 | k+1=>Jeg Q (comb Q n l k) (nod Q (Jfg n k)) (l k*tN Q n k%Q)
theorem Vj (Q n:Nat) (l:Nat→Nat):∀ k,(comb Q n l k).length=n
 | 0=>by simp [comb]
 | k+1=>by rw [comb,Jbh,Vj Q n l k]
theorem Jbq {Q:Nat} (h:1<Q) (n:Nat) (l:Nat→Nat):∀ k,∀ c∈comb Q n l k,c<Q
 | 0,c,hc=>by rw [comb] at hc;rw [List.eq_of_mem_replicate hc];omega
 | k+1,c,hc=>Jds h _ _ _ (Jbq h n l k) c hc
theorem Jeb (Q a:Nat):Cg Q (((a%Q:Nat):Int)) (a:Int):=by rw [Int.natCast_emod];exact Cg.emod Q _
theorem comb_ev {Q n:Nat} (h:1<Q) (l:Nat→Nat) (y:Int):∀ k,k≤n→Cg Q (evZ (zs (comb Q n l k)) y) (Jcq (fun x=>((l x*tN Q n x%Q:Nat):Int)*evZ (zs (nod Q (Jfg n x))) y) k)
 | 0,_=>Cg.of_eq (by rw [comb,Jak _ _ fun c hc=>by obtain ⟨d,hd,rfl⟩:=List.mem_map.1 hc;rw [List.eq_of_mem_replicate hd];rfl];rfl)
 | k+1,hk=>(Jdu _ _ _ y (by rw [Jek,oths_len (by omega),Vj];omega)).trans ((comb_ev h l y k (by omega)).add (Cg.refl _ _))
theorem comb_last {Q n:Nat} (h:1<Q) (l:Nat→Nat):∀ k,k≤n→0<n→∃ c,(comb Q n l k)[n-1]? = some c∧Cg Q (c:Int) (Jcq (fun x=>((l x*tN Q n x%Q:Nat):Int)) k)
 | 0,_,h0=>⟨0,by rw [comb,List.getElem?_replicate,if_pos (by omega)],Cg.refl _ _⟩
 | k+1,hk,h0=>by
  obtain ⟨c,hc,hs⟩:=comb_last h l k (by omega) h0
  have hl:=nod_last h (Jfg n k)
  rw [oths_len (by omega)] at hl
  refine ⟨_,addT_get Q _ _ _ _ _ _ hc hl,(Jeb Q _).trans ?_⟩
  rw [Int.natCast_add]
  refine (((Jeb Q _).trans (Cg.of_eq (by rw [Nat.one_mul]))).add hs).trans (Cg.of_eq (by rw [Jcq];omega))
theorem Uw {Q n:Nat} (hq:Pr.Pri Q) (hn:n<Q) (l:Nat→Nat) (j:Nat) (hj:j<n):Cg Q (evZ (zs (comb Q n l n)) ((j+1:Nat):Int)) ((l j:Nat):Int):=by
 have h:=hq.1
 refine (comb_ev h l _ n (Nat.le_refl _)).trans ?_
 have e1:Cg Q (Jcq (fun x=>((l x*tN Q n x%Q:Nat):Int)*evZ (zs (nod Q (Jfg n x))) ((j+1:Nat):Int)) n) (Jcq (fun x=>if x=j then ((l x*tN Q n x:Nat):Int)*((Dn Q n x:Nat):Int) else 0) n):=Jcf n fun x hx=>by
  by_cases e:x=j
  ·rw [if_pos e];exact (Jeb Q _).mul ((oths_ev h x j hj).2 e)
  ·rw [if_neg e];exact (Cg.mulL _ ((oths_ev h x j hj).1 e)).trans (Cg.of_eq (by omega))
 refine e1.trans ?_
 rw [sumR_one n hj fun x _ hx=>by rw [if_neg hx],if_pos rfl,Int.natCast_mul]
 exact (Cg.of_eq (by grind)).trans ((Cg.mulL ((l j:Nat):Int) (tN_is hq hn hj)).trans (Cg.of_eq (by omega)))
theorem comb_uniq {Q n:Nat} (hq:Pr.Pri Q) (hn:n<Q) (l:Nat→Nat) (ps:List Nat) (hl:ps.length=n) (hp:∀ c∈ps,c<Q) (hv:∀ j,j<n→Cg Q (evZ (zs ps) ((j+1:Nat):Int)) ((l j:Nat):Int)):ps=comb Q n l n:=by
 refine Jgc (xs:=pls n) (by rw [hl,Vj]) (by rw [hl];simp [pls]) hp (Jbq hq.1 n l n) (Jdg hq hn) fun x hx=>?_
 obtain ⟨j,hj,rfl⟩:=List.mem_map.1 hx
 exact (hv j (List.mem_range.1 hj)).trans (Uw hq hn l j (List.mem_range.1 hj)).symm
theorem lead {Q n:Nat} (hq:Pr.Pri Q) (hn:n<Q) (h0:0<n) (ps:List Nat) (hl:ps.length=n) (hp:∀ c∈ps,c<Q):∃ c,ps[n-1]? = some c∧Cg Q (Jcq (fun x=>evZ (zs ps) ((x+1:Nat):Int)*((tN Q n x:Nat):Int)) n) (c:Int):=by
 have e:=comb_uniq hq hn (fun x=>Ki Q (evZ (zs ps) ((x+1:Nat):Int))) ps hl hp fun j _=>(Xd hq.1 _).symm
 obtain ⟨c,hc,hs⟩:=comb_last hq.1 (fun x=>Ki Q (evZ (zs ps) ((x+1:Nat):Int))) n (Nat.le_refl _) h0
 rw [← e] at hc
 refine ⟨c,hc,(Cg.symm (hs.trans (Jcf n fun x _=>(Jeb Q _).trans ?_)))⟩
 rw [Int.natCast_mul]
 exact (Xd hq.1 _).mul (Cg.refl _ _)
theorem lead_at {Q n:Nat} (hq:Pr.Pri Q) (hn:n<Q) (ps:List Nat) (hl:ps.length=n) (hp:∀ c∈ps,c<Q) (j:Nat) (hj:j<n) (hz:∀ i,n-j≤i→i<n→ps[i]? = some 0) :
  ∃ c,ps[n-1-j]? = some c∧Cg Q (Jcq (fun x=>evZ (zs ps) ((x+1:Nat):Int)*(((x+1:Nat):Int)^j*((tN Q n x:Nat):Int))) n) (c:Int):=by
 have h:=hq.1
 obtain ⟨c,hc,hs⟩:=lead hq hn (by omega) (List.replicate j 0++ps.take (n-j)) (by simp [hl];omega) (fun c hc=>by
  rcases List.mem_append.1 hc with hc | hc
  ·rw [List.eq_of_mem_replicate hc];omega
  ·exact hp c (List.mem_of_mem_take hc))
 refine ⟨c,?_,(Jcf n fun x _=>Cg.of_eq ?_).trans hs⟩
 ·rw [List.getElem?_append_right (by simp;omega),List.length_replicate,List.getElem?_take,if_pos (by omega)] at hc
  exact hc
 ·have e1:zs (List.replicate j 0++ps.take (n-j))=zs (List.replicate j 0)++zs (ps.take (n-j)):=by simp [zs]
  rw [e1,Jcp,Jak (zs (List.replicate j 0)) _ fun c hc=>by obtain ⟨d,hd,rfl⟩:=List.mem_map.1 hc;rw [List.eq_of_mem_replicate hd];rfl]
  rw [Jal (fun i h1 h2=>hz i h1 (by omega)),Jar,List.length_replicate]
  grind
def Jfc:List Nat→List Nat→Nat
 | a::l,b::m=>a*b+Jfc l m
 | _,_=>0
theorem prV_pow {P G:Nat} (h1:1<P):∀ (ls ws:List Nat) (s:Nat),((ls.map fun x=>G^x%P).zip ws).foldl (fun s x=>s*(x.1^x.2%P)%P) (G^s%P)=G^(s+Jfc ls ws)%P
 | [],ws,s=>by simp [Jfc]
 | a::l,[],s=>by simp [Jfc]
 | a::l,b::m,s=>by
  have e:(G^s%P)*((G^a%P)^b%P)%P=G^(s+a*b)%P:=by
   rw [← Nat.pow_mod (G^a) b P,← Nat.pow_mul,← Nat.mul_mod,← Nat.pow_add]
  simp only [List.map_cons,List.zip_cons_cons,List.foldl_cons,Jfc]
  rw [e,prV_pow h1 l m (s+a*b),Nat.add_assoc]
theorem prV_dot {P G:Nat} (h1:1<P) (ls ws:List Nat):prV P (ls.map fun x=>G^x%P) ws=G^Jfc ls ws%P:=by
 have h:=prV_pow (G:=G) h1 ls ws 0
 rw [Nat.pow_zero,Nat.mod_eq_of_lt h1,Nat.zero_add] at h
 exact h
theorem ord_iff {P Q G m:Nat} (hq:Pr.Pri Q) (h1:1<P) (hG:G^Q%P=1) (hne:G%P≠1):G^m%P=1 ↔ Q∣m:=by
 constructor
 ·intro hm
  rcases hq.2 _ (Nat.gcd_dvd_right m Q) with e | e
  ·exfalso
   obtain ⟨V,hV,hmV⟩:=Jfn hq.1 e
   have h2:G^(m*V)%P=1:=by rw [Nat.pow_mul,Nat.pow_mod,hm,Nat.one_pow,Nat.mod_eq_of_lt h1]
   have h3:m*V=Q*(m*V/Q)+1:=by have:=Nat.div_add_mod (m*V) Q;omega
   rw [h3,Nat.pow_add,Nat.pow_one,Nat.pow_mul,Nat.mul_mod,Nat.pow_mod,hG,Nat.one_pow,Nat.mod_eq_of_lt h1,Nat.one_mul,Nat.mod_mod] at h2
   exact hne h2
  ·exact e ▸ Nat.gcd_dvd_left m Q
 ·rintro ⟨k,rfl⟩
  rw [Nat.pow_mul,Nat.pow_mod,hG,Nat.one_pow,Nat.mod_eq_of_lt h1]
theorem cg_dvd {Q m:Nat}:Cg Q (m:Int) 0 ↔ Q∣m:=by
 constructor
 ·rintro ⟨k,hk⟩
  exact Int.natCast_dvd_natCast.1 ⟨k,by omega⟩
 ·rintro ⟨k,rfl⟩
  exact ⟨k,by simp⟩
theorem dotN_app (a b:Nat):∀ (l m:List Nat),l.length=m.length→Jfc (l++[a]) (m++[b])=Jfc l m+a*b
 | [],[],_=>by simp [Jfc]
 | [],_::_,h=>by simp at h
 | _::_,[],h=>by simp at h
 | c::l,d::m,h=>by simp only [List.cons_append,Jfc,dotN_app a b l m (by simpa using h)];omega
theorem dot_sum (ls:List Nat) (w:Nat→Nat):∀ n,n≤ls.length→((Jfc (ls.take n) ((List.range n).map w):Nat):Int)=Jcq (fun x=>((ls.getD x 0:Nat):Int)*((w x:Nat):Int)) n
 | 0,_=>by simp [Jfc,Jcq]
 | n+1,h=>by
  have hn:n<ls.length:=by omega
  rw [List.take_succ_eq_append_getElem hn,List.range_succ,List.map_append,List.map_cons,List.map_nil,dotN_app _ _ _ _ (by simp;omega),Int.natCast_add,dot_sum ls w n (by omega),Jcq,Int.natCast_mul]
  rw [List.getD_eq_getElem?_getD,List.getElem?_eq_getElem hn];rfl
theorem prW_iff {P Q G n j:Nat} (hq:Pr.Pri Q) (hn:n<Q) (h1:1<P) (hG:G^Q%P=1) (hne:G%P≠1) (ls ps:List Nat) (hl:ls.length=n) (hv:∀ x,x<n→Cg Q (evZ (zs ps) ((x+1:Nat):Int)) ((ls.getD x 0:Nat):Int)) :
  prW P Q n (ls.map fun x=>G^x%P) j=1 ↔ Cg Q (Jcq (fun x=>evZ (zs ps) ((x+1:Nat):Int)*(((x+1:Nat):Int)^j*((tN Q n x:Nat):Int))) n) 0:=by
 have hq1:1<Q:=hq.1
 unfold prW
 rw [prV_dot h1,ord_iff hq h1 hG hne,← cg_dvd]
 have e:=dot_sum ls (wN Q n (Jdf Q j)) n (by omega)
 rw [List.take_of_length_le (by omega)] at e
 rw [e]
 have hc:Cg Q (Jcq (fun x=>((ls.getD x 0:Nat):Int)*((wN Q n (Jdf Q j) x:Nat):Int)) n) (Jcq (fun x=>evZ (zs ps) ((x+1:Nat):Int)*(((x+1:Nat):Int)^j*((tN Q n x:Nat):Int))) n):=Jcf n fun x hx=>by
  refine (hv x hx).symm.mul ?_
  unfold wN
  refine (Jeb Q _).trans ?_
  rw [Int.natCast_mul]
  refine Cg.mul ?_ (Cg.refl _ _)
  refine (Xd hq1 _).trans ((Jfo (Xd hq1 _) _).trans ?_)
  have e1:zs (Jdf Q j)=zs (List.replicate j 0)++zs [Ki Q 1]:=by simp [zs,Jdf]
  rw [e1,Jcp,Jak (zs (List.replicate j 0)) _ fun c hc=>by obtain ⟨d,hd,rfl⟩:=List.mem_map.1 hc;rw [List.eq_of_mem_replicate hd];rfl]
  rw [sof_one hq1,Jar,List.length_replicate]
  exact Cg.of_eq (by simp [zs,evZ])
 exact ⟨fun h=>hc.symm.trans h,fun h=>hc.trans h⟩
theorem allOK_iff {P Q G n k:Nat} (hq:Pr.Pri Q) (hn:n<Q) (h1:1<P) (hG:G^Q%P=1) (hne:G%P≠1) (ls ps:List Nat) (hl:ls.length=n) (hk1:1≤k) (hk:k≤n) (hpl:ps.length=n) (hp:∀ c∈ps,c<Q) (hv:∀ x,x<n→Cg Q (evZ (zs ps) ((x+1:Nat):Int)) ((ls.getD x 0:Nat):Int)) :
  Jfr P Q n (ls.map fun x=>G^x%P) (n-k) ↔ ∀ i,k≤i→i<n→ps[i]? = some 0:=by
 have hq1:1<Q:=hq.1
 have hiff:=fun j=>prW_iff (j:=j) hq hn h1 hG hne ls ps hl hv
 constructor
 ·intro hok
  have hall:∀ j,j<n-k→prW P Q n (ls.map fun x=>G^x%P) j=1:=by
   intro j hj
   rcases hok with h | h
   ·omega
   ·exact h.2 j hj
  have key:∀ j,j≤n-k→∀ i,n-j≤i→i<n→ps[i]? = some 0:=by
   intro j
   induction j with
   | zero=>intro _ i h1 h2;omega
   | succ j ih=>
    intro hj i hi hin
    have hz:=ih (by omega)
    by_cases e:n-j≤i
    ·exact hz i e hin
    ·obtain ⟨c,hc,hs⟩:=lead_at hq hn ps hpl hp j (by omega) hz
     have h0:=(hiff j).1 (hall j (by omega))
     have hi2:i=n-1-j:=by omega
     rw [hi2,hc]
     have hcQ:c<Q:=hp c (List.mem_of_getElem? hc)
     rw [Cg.eq hcQ (show 0<Q by omega) (hs.symm.trans h0)]
  exact fun i h2 h3=>key (n-k) (Nat.le_refl _) i (by omega) h3
 ·intro hz
  refine .inr ⟨wE_good hq hn,fun j hj=>(hiff j).2 ?_⟩
  obtain ⟨c,hc,hs⟩:=lead_at hq hn ps hpl hp j (by omega) fun i h2 h3=>hz i (by omega) h3
  have:=hz (n-1-j) (by omega) (by omega)
  rw [hc] at this
  cases this
  exact hs
structure Gd (P Q G:Nat):Prop where
 hP:P<2^256
 hQ:Q<2^256
 hG:G<2^256
 pri:Pr.Pri Q
 h1:1<P
 may:Jbo P G=true
 pow:G^Q%P=1
 ne:G%P≠1
theorem gd_of {P Q G H:Nat} (hP:P<2^256) (hQ:Q<2^256) (hG:G<2^256) (h:goodB P Q G H=true):Gd P Q G∧wd Q 0=Q∧Q<2147483648:=by
 simp only [goodB,Bool.and_eq_true,Bool.not_eq_true',decide_eq_false_iff_not] at h
 obtain ⟨⟨⟨⟨⟨⟨⟨⟨b0,b1⟩,b2⟩,c0⟩,c1⟩,c2⟩,c3⟩,c4⟩,c5⟩:=h
 have q1:Q<2^31:=Nat.lt_of_lt_of_le (bl_spec Q).1 (Nat.pow_le_pow_right (by decide) (by omega))
 have p1:P<2^32:=Nat.lt_of_lt_of_le (bl_spec P).1 (Nat.pow_le_pow_right (by decide) (by omega))
 have e:wd Q 0=Q:=by unfold wd;rw [Nat.pow_zero,Nat.div_one,Nat.mod_eq_of_lt (by omega)]
 have e2:wd P 0=P:=by unfold wd;rw [Nat.pow_zero,Nat.div_one,Nat.mod_eq_of_lt (by omega)]
 rw [e] at c1
 rw [e2] at c0
 obtain ⟨⟨g0,g1⟩,g2⟩:=inB_iff.1 c2
 refine ⟨⟨hP,hQ,hG,(smallB_pri.1 c1).2,(smallB_pri.1 c0).2.1,by unfold Jbo;simp [g0,g1],g2,by rw [Nat.mod_eq_of_lt g1];exact c4⟩,e,by omega⟩
theorem pow_may {P Q G x:Nat} (g:Gd P Q G):Jbo P (G^x%P)=true:=by
 have h1:=g.h1
 have hlt:G^x%P<P:=Nat.mod_lt _ (by omega)
 have hne:G^x%P≠0:=fun e=>by
  have h2:(G^x)^Q%P=1:=by rw [← Nat.pow_mul,Nat.mul_comm,Nat.pow_mul,Nat.pow_mod,g.pow,Nat.one_pow,Nat.mod_eq_of_lt h1]
  rw [Nat.pow_mod,e,Nat.zero_pow (by have:=g.pri.1;omega),Nat.zero_mod] at h2
  cases h2
 unfold Jbo
 rw [decide_eq_true hne,decide_eq_true hlt];rfl
theorem prB_pow {P Q G:Nat} (g:Gd P Q G) (ls:List Nat):prB P (ls.map (fun x=>G^x%P)) (List.replicate ls.length 0)=true:=by
 unfold prB
 rw [decide_eq_true g.h1,decide_eq_true (by simp)]
 simp only [Bool.true_and,List.all_eq_true]
 intro b hb
 obtain ⟨x,_,rfl⟩:=List.mem_map.1 hb
 exact pow_may g
theorem Jdh {b:Bool} {P Q G:Nat} (g:Gd P Q G) (H n capl k:Nat) (pl:Option Addr) (ls ps:List Nat) (w0:World) (h7:7<Q) (hn7:n≤7) (hk1:1≤k) (hk:k≤n) (r:RN w0.heap.size w0 pl n capl ls)
  (hpl:ps.length=n) (hp:∀ c∈ps,c<Q) (hv:∀ x,x<n→Cg Q (evZ (zs ps) ((x+1:Nat):Int)) ((ls.getD x 0:Nat):Int)) (hb:b=true ↔ ∀ i,k≤i→i<n→ps[i]? = some 0) :
  Calls Try.prog 9 #[grp P Q G H,.slice pl n capl,.int .i64 (k:Nat)] w0 fun e w'=>e=.returned (.tuple #[.bool b,.int .i64 0])∧Below w0.heap.size w0 w':=by
 refine passes_any P Q G H n capl pl ls k b 0 w0 g.hP g.hG (by omega) g.may r fun a c u ru=>?_
 have hpb:=prB_pow g ls
 rw [r.1] at hpb
 have h:=chk_ok P Q G H n k c a (ls.map (fun x=>G^x%P)) u g.hP g.hQ hn7 hk1 hk ru hpb
 have e1:Jfu Q n (n-k)=0:=by unfold Jfu;split;(· rfl);exact wE_good g.pri (by omega)
 have e2:allB P Q n (ls.map (fun x=>G^x%P)) (n-k)=b:=by
  rw [Bool.eq_iff_iff,allB_iff,allOK_iff g.pri (by omega) g.h1 g.pow g.ne ls ps r.1 hk1 hk hpl hp hv,hb]
 rw [e1,e2] at h
 exact h
theorem g23:Gd 23 11 4:=⟨by decide,by decide,by decide,⟨by decide,fun d hd=>(by decide:∀ d,d<12→d∣11→d=1∨d=11) d (by have:=Nat.le_of_dvd (by decide) hd;omega) hd⟩,by decide,by decide,by decide,by decide⟩
theorem same12 (n cap m capb:Nat) (pa pb:Option Addr) (xs ys:List Nat) (w0:World) (h:xs=ys) (r:RN w0.heap.size w0 pa n cap xs) (r2:RN w0.heap.size w0 pb m capb ys):Calls Try.prog 13 #[.slice pa n cap,.slice pb m capb] w0 fun e w'=>e=.returned (.bool true)∧Below w0.heap.size w0 w':=by
 have:=sameL_any n cap m capb pa pb xs ys w0 r r2
 rwa [decide_eq_true h] at this
theorem Jep {Q a V:Nat} (h1:1<Q) (hV:V<Q) (h:a*V%Q=1):invN Q a=V:=by
 obtain ⟨hX,hx⟩:=Jeo ⟨V,hV,h⟩
 have c1:Cg Q ((a:Int)*(V:Int)) 1:=Cg.of_mod (by rw [← Int.natCast_mul,← Int.natCast_emod,h,Int.emod_eq_of_lt (by decide) (by omega)];rfl)
 have c2:Cg Q ((a:Int)*((invN Q a:Nat):Int)) 1:=Cg.of_mod (by rw [← Int.natCast_mul,← Int.natCast_emod,hx,Int.emod_eq_of_lt (by decide) (by omega)];rfl)
 refine Cg.eq hX hV (U.cancel (d:=(a:Int)) ?_ ⟨(V:Int),c1⟩)
 exact (Cg.of_eq (by grind)).trans ((c2.trans c1.symm).trans (Cg.of_eq (by grind)))
theorem k_word (a:Option Addr) (c:Nat) (w:World) (r:RN w.heap.size w a 1 c [1]):Calls Try.prog 15 #[grp 23 11 4 9,.int .i64 3,.slice a 1 c] w fun e w'=>∃ u,e=.returned u∧Below w.heap.size w w'∧∃ gw cw cs,u=.tuple #[.slice (some ⟨gw,0,none⟩) 3 cw,.int .i64 0]∧w.heap.size≤gw∧At w' gw 24 cs∧3≤cw∧cw≤9223372036854775807∧Pf cs [6,10,6]:=by
 refine (word_w 23 11 4 9 3 1 c a [1] w (by decide) (by decide) (by decide) (by decide) r).mono fun e w' h=>?_
 rcases h with h | h | h
 ·exact absurd h.1 (by decide)
 ·obtain ⟨_,⟨x,hx,hg⟩,_⟩:=h
  exact absurd (Jft g23.pri (by decide) hx) hg
 ·obtain ⟨_,u,rfl,v,rfl,hb,hn⟩:=h
  have e0:invN 11 (Dn 11 3 0)=6:=Jep (by decide) (by decide) (by decide)
  have e1:invN 11 (Dn 11 3 1)=10:=Jep (by decide) (by decide) (by decide)
  have e2:invN 11 (Dn 11 3 2)=6:=Jep (by decide) (by decide) (by decide)
  have e:(List.range 3).map (wN 11 3 [1])=[6,10,6]:=by
   show [wN 11 3 [1] 0,wN 11 3 [1] 1,wN 11 3 [1] 2]=_
   unfold wN
   rw [e0,e1,e2]
   decide
  rw [e] at hn
  obtain ⟨g,cap2,cur,e,hg,hat,h1,h2,hp⟩:=NR.row hn (by simp)
  subst e
  exact ⟨_,rfl,hb,g,cap2,cur,rfl,hg,hat,h1,h2,hp⟩
end Go.Proofs.Ytcbnmdkmfdjpiaa
