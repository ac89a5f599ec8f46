import Derived.Deep.Cut
import Derived.Test.YtcbnmdkmfdjpiaaPSc3
import Derived.Test.YtcbnmdkmfdjpiaaPShort
namespace Go.Proofs.Ytcbnmdkmfdjpiaa
set_option maxRecDepth 100000
open Go.RowKit
set_option linter.unusedSimpArgs false
set_option linter.unusedVariables false
attribute [local go_sem ↓] Go.wp_at_zero Go.wp_at_succ

theorem Xl {Q:Nat} (h:1<Q) (n:Int):((Ki Q n:Nat):Int)=n%(Q:Int):=by
 unfold Ki;rw [if_pos h]
 exact Int.toNat_of_nonneg (Int.emod_nonneg _ (by omega))
theorem Xc {Q:Nat} (h:1<Q) (n:Int):Ki Q n<Q:=by
 have h1:=Xl h n
 have h2:=Int.emod_lt_of_pos n (show (0:Int)<Q by omega)
 omega
theorem sof_eq {Q:Nat} (h:1<Q) {m:Nat} {n:Int} (e:((m:Nat):Int)%(Q:Int)=n%(Q:Int)):m%Q=Ki Q n:=by
 have:=Xl h n
 have h2:((m%Q:Nat):Int)=(m:Int)%(Q:Int):=rfl
 omega
theorem sof_sub {Q:Nat} (h:1<Q) (m n:Int):(Ki Q m+Q-Ki Q n)%Q=Ki Q (m-n):=by
 refine sof_eq h ?_
 have h1:=Xc h n
 rw [Int.natCast_sub (by omega),Int.natCast_add,Xl h,Xl h,Int.sub_emod,Int.add_emod_right,← Int.sub_emod,Int.emod_sub_emod,Int.sub_emod m,Int.emod_emod,← Int.sub_emod]
theorem sof_mul {Q:Nat} (h:1<Q) (m n:Int):Ki Q m*Ki Q n%Q=Ki Q (m*n):=by
 refine sof_eq h ?_
 rw [Int.natCast_mul,Xl h,Xl h,← Int.mul_emod]
theorem sof_one {Q:Nat} (h:1<Q):Ki Q 1=1:=by
 have:=Xl h 1
 rw [Int.emod_eq_of_lt (by omega) (by omega)] at this
 omega
theorem sof_zero {Q:Nat} (h:1<Q):Ki Q 0=0:=by
 have:=Xl h 0
 rw [Int.zero_emod] at this
 omega
def Cg (Q:Nat) (a b:Int):Prop:=∃ k:Int,a=b+(Q:Int)*k
theorem Cg.refl (Q:Nat) (a:Int):Cg Q a a:=⟨0,by omega⟩
theorem Cg.symm {Q:Nat} {a b:Int}:Cg Q a b→Cg Q b a
 | ⟨k,h⟩=>⟨-k,by subst h;grind⟩
theorem Cg.trans {Q:Nat} {a b c:Int}:Cg Q a b→Cg Q b c→Cg Q a c
 | ⟨k,h⟩,⟨l,h'⟩=>⟨k+l,by subst h;subst h';grind⟩
theorem Cg.add {Q:Nat} {a b c d:Int}:Cg Q a b→Cg Q c d→Cg Q (a+c) (b+d)
 | ⟨k,h⟩,⟨l,h'⟩=>⟨k+l,by subst h;subst h';grind⟩
theorem Cg.sub {Q:Nat} {a b c d:Int}:Cg Q a b→Cg Q c d→Cg Q (a-c) (b-d)
 | ⟨k,h⟩,⟨l,h'⟩=>⟨k-l,by subst h;subst h';grind⟩
theorem Cg.mul {Q:Nat} {a b c d:Int}:Cg Q a b→Cg Q c d→Cg Q (a*c) (b*d)
 | ⟨k,h⟩,⟨l,h'⟩=>⟨b*l+k*d+(Q:Int)*k*l,by subst h;subst h';grind⟩
theorem Cg.mulL {Q:Nat} {c d:Int} (a:Int) (h:Cg Q c d):Cg Q (a*c) (a*d):=(Cg.refl Q a).mul h
theorem Cg.of_eq {Q:Nat} {a b:Int} (h:a=b):Cg Q a b:=by subst h;exact Cg.refl _ _
theorem Cg.emod (Q:Nat) (a:Int):Cg Q (a%(Q:Int)) a:=⟨-(a/(Q:Int)),by have:=Int.emod_add_mul_ediv a (Q:Int);grind⟩
theorem Cg.mod_eq {Q:Nat} {a b:Int}:Cg Q a b→a%(Q:Int)=b%(Q:Int)
 | ⟨k,h⟩=>by subst h;rw [Int.add_mul_emod_self_left]
theorem Cg.of_mod {Q:Nat} {a b:Int} (h:a%(Q:Int)=b%(Q:Int)):Cg Q a b:=((Cg.emod Q a).symm.trans (Cg.of_eq h)).trans (Cg.emod Q b)
theorem Cg.eq {Q:Nat} {a b:Nat} (ha:a<Q) (hb:b<Q) (h:Cg Q (a:Int) (b:Int)):a=b:=by
 have h1:=h.mod_eq
 rw [Int.emod_eq_of_lt (by omega) (by omega),Int.emod_eq_of_lt (by omega) (by omega)] at h1
 omega
theorem Xd {Q:Nat} (h:1<Q) (z:Int):Cg Q ((Ki Q z:Nat):Int) z:=by rw [Xl h];exact Cg.emod Q z
def U (Q:Nat) (a:Int):Prop:=∃ b:Int,Cg Q (a*b) 1
theorem U.left {Q:Nat} {a b:Int}:U Q (a*b)→U Q a
 | ⟨c,h⟩=>⟨b*c,by rw [← Int.mul_assoc];exact h⟩
theorem U.right {Q:Nat} {a b:Int}:U Q (a*b)→U Q b
 | ⟨c,h⟩=>⟨a*c,by rw [show b*(a*c)=a*b*c by grind];exact h⟩
theorem U.mul {Q:Nat} {a b:Int}:U Q a→U Q b→U Q (a*b)
 | ⟨c,h⟩,⟨d,h'⟩=>⟨c*d,by rw [show a*b*(c*d)=a*c*(b*d) by grind];exact h.mul h'⟩
theorem U.one (Q:Nat):U Q 1:=⟨1,Cg.refl _ _⟩
theorem U.cg {Q:Nat} {a b:Int} (h:Cg Q a b):U Q a→U Q b
 | ⟨c,h'⟩=>⟨c,(h.symm.mul (Cg.refl Q c)).trans h'⟩
theorem U.cancel {Q:Nat} {a b d:Int} (h:Cg Q (a*d) (b*d)):U Q d→Cg Q a b
 | ⟨e,h'⟩=>by
  have h1:=h.mul (Cg.refl Q e)
  have h2:Cg Q (a*d*e) a:=by rw [Int.mul_assoc];exact (Cg.mulL a h').trans (Cg.of_eq (by omega))
  have h3:Cg Q (b*d*e) b:=by rw [Int.mul_assoc];exact (Cg.mulL b h').trans (Cg.of_eq (by omega))
  exact (h2.symm.trans h1).trans h3
theorem U.gcd {Q A:Nat} (h1:1<Q) (h:U Q (A:Int)):Nat.gcd A Q=1:=by
 obtain ⟨b,hb⟩:=h
 have h2:Cg Q ((A*Ki Q b:Nat):Int) 1:=by
  rw [Int.natCast_mul]
  exact (Cg.mulL _ (Xd h1 b)).trans hb
 refine inv_gcd A Q (Ki Q b) h1 ?_
 exact Cg.eq (Nat.mod_lt _ (by omega)) h1 (((Cg.of_eq (Int.natCast_emod _ _)).trans (Cg.emod Q _)).trans h2)
theorem U.of_gcd {Q A:Nat} (h1:1<Q) (h:Nat.gcd A Q=1):U Q (A:Int):=by
 obtain ⟨V,_,hV⟩:=inv_there A Q h1 h
 exact ⟨(V:Int),by rw [← Int.natCast_mul];exact ((Cg.emod Q _).symm.trans (Cg.of_eq (by rw [← Int.natCast_emod,hV];rfl)))⟩

def evZ:List Int→Int→Int
 | [],_=>0
 | c::p,x=>c+x*evZ p x
def zs (p:List Nat):List Int:=List.map (fun n:Nat=>(n:Int)) p
theorem Jar (p:List Nat):(zs p).length=p.length:=by simp [zs]
theorem Jfd {p:List Nat} {i:Nat} (h:i<p.length):(zs p)[i]'(by rw [Jar];exact h)=(p[i]:Int):=by simp [zs]
theorem Jcp:∀ (p q:List Int) (x:Int),evZ (p++q) x=evZ p x+x^p.length*evZ q x
 | [],q,x=>by simp [evZ]
 | c::p,q,x=>by simp only [List.cons_append,evZ,Jcp p q x,List.length_cons,Int.pow_succ];grind
theorem Jak:∀ (p:List Int) (x:Int),(∀ c∈p,c=0)→evZ p x=0
 | [],_,_=>rfl
 | c::p,x,h=>by simp [evZ,Jak p x (fun d hd=>h d (List.mem_cons_of_mem _ hd)),h c List.mem_cons_self]
theorem Jfo {Q:Nat} {x y:Int} (h:Cg Q x y):∀ (p:List Int),Cg Q (evZ p x) (evZ p y)
 | []=>Cg.refl _ _
 | c::p=>(Cg.refl Q c).add (h.mul (Jfo h p))
def Jfx:List Int→List Int→List Int
 | [],_=>[]
 | p,[]=>p
 | c::p,d::q=>(c-d)::Jfx p q
theorem subZ_len:∀ (p q:List Int),(Jfx p q).length=p.length
 | [],_=>rfl
 | _::_,[]=>rfl
 | c::p,d::q=>by simp [Jfx,subZ_len p q]
theorem subZ_ev:∀ (p q:List Int) (x:Int),p.length=q.length→evZ (Jfx p q) x=evZ p x-evZ q x
 | [],[],x,_=>by simp [Jfx,evZ]
 | [],d::q,x,h=>by simp at h
 | c::p,[],x,h=>by simp at h
 | c::p,d::q,x,h=>by simp only [Jfx,evZ,subZ_ev p q x (by simpa using h)];grind
def syn (a:Int):List Int→List Int × Int
 | []=>([],0)
 | [c]=>([],c)
 | c::d::p=>((syn a (d::p)).2::(syn a (d::p)).1,c+a*(syn a (d::p)).2)
theorem Jfe (a:Int):∀ (p:List Int) (x:Int),evZ p x=(x-a)*evZ (syn a p).1 x+(syn a p).2
 | [],x=>by simp [syn,evZ]
 | [c],x=>by simp [syn,evZ]
 | c::d::p,x=>by
  have h:=Jfe a (d::p) x
  simp only [syn]
  rw [evZ,h,evZ]
  grind
theorem syn_len (a:Int):∀ (p:List Int),(syn a p).1.length=p.length-1
 | []=>rfl
 | [c]=>rfl
 | c::d::p=>by simp [syn,syn_len a (d::p)]
theorem syn_zero (Q:Nat) (a:Int):∀ (p:List Int),(∀ c∈(syn a p).1,Cg Q c 0)→Cg Q (syn a p).2 0→∀ c∈p,Cg Q c 0
 | [],_,_,c,h=>by cases h
 | [c],_,h,d,hd=>by rw [List.mem_singleton.1 hd];exact h
 | c::d::p,h1,h2,e,he=>by
  have hr:Cg Q (syn a (d::p)).2 0:=h1 _ (by simp [syn])
  have hc:Cg Q c 0:=by
   have h3:Cg Q (c+a*(syn a (d::p)).2-a*(syn a (d::p)).2) (0-a*0):=Cg.sub h2 (Cg.mulL a hr)
   exact ((Cg.of_eq (by omega)).trans h3).trans (Cg.of_eq (by omega))
  rcases List.mem_cons.1 he with rfl | he
  ·exact hc
  ·exact syn_zero Q a (d::p) (fun c hc=>h1 c (by simp only [syn];exact List.mem_cons_of_mem _ hc)) hr e he
theorem uniq0 (Q:Nat):∀ (xs:List Int) (p:List Int),p.length≤xs.length→xs.Pairwise (fun a b=>U Q (b-a))→(∀ x∈xs,Cg Q (evZ p x) 0)→∀ c∈p,Cg Q c 0
 | [],p,hl,_,_,c,hc=>by rw [List.length_eq_zero_iff.1 (show p.length=0 from Nat.le_zero.1 hl)] at hc;cases hc
 | a::xs,p,hl,hu,hv,c,hc=>by
  obtain ⟨hu1,hu2⟩:=List.pairwise_cons.1 hu
  have hr:Cg Q (syn a p).2 0:=by
   have h1:=hv a List.mem_cons_self
   rw [Jfe a p a] at h1
   exact (Cg.of_eq (by grind)).trans h1
  refine syn_zero Q a p (uniq0 Q xs (syn a p).1 (by rw [syn_len];simp at hl;omega) hu2 fun x hx=>?_) hr c hc
  have h1:=hv x (List.mem_cons_of_mem _ hx)
  rw [Jfe a p x] at h1
  have h2:Cg Q (evZ (syn a p).1 x*(x-a)) (0*(x-a)):=by
   have h3:=h1.sub hr
   exact ((Cg.of_eq (by grind)).trans h3).trans (Cg.of_eq (by omega))
  exact U.cancel h2 (hu1 x hx)
theorem Jgc {Q:Nat} {xs:List Int} {p q:List Nat} (hl:p.length=q.length) (hx:p.length≤xs.length) (hp:∀ c∈p,c<Q) (hq:∀ c∈q,c<Q) (hu:xs.Pairwise fun a b=>U Q (b-a)) (hv:∀ x∈xs,Cg Q (evZ (zs p) x) (evZ (zs q) x)):p=q:=by
 have h0:=uniq0 Q xs (Jfx (zs p) (zs q)) (by rw [subZ_len,Jar];exact hx) hu fun x hx=>by
  rw [subZ_ev _ _ _ (by rw [Jar,Jar,hl])]
  exact ((hv x hx).sub (Cg.refl Q (evZ (zs q) x))).trans (Cg.of_eq (by omega))
 clear hv hx hu
 induction p generalizing q with
 | nil=>exact (List.length_eq_zero_iff.1 hl.symm).symm
 | cons c p ih=>
  cases q with
  | nil=>simp at hl
  | cons d q=>
   have h1:Cg Q ((c:Int)-(d:Int)) 0:=h0 _ (by simp [zs,Jfx])
   have h2:c=d:=Cg.eq (hp c List.mem_cons_self) (hq d List.mem_cons_self) (by
    exact ((Cg.of_eq (by omega)).trans (h1.add (Cg.refl Q (d:Int)))).trans (Cg.of_eq (by omega)))
   subst h2
   rw [ih (by simpa using hl) (fun c hc=>hp c (List.mem_cons_of_mem _ hc)) (fun c hc=>hq c (List.mem_cons_of_mem _ hc)) fun e he=>h0 e (by simp only [zs,List.map_cons,Jfx];exact List.mem_cons_of_mem _ he)]

def Jeg (Q:Nat):List Nat→List Nat→Nat→List Nat
 | [],_,_=>[]
 | p,[],_=>p
 | c::p,d::o,t=>(d*t%Q+c)%Q::Jeg Q p o t
theorem Jbh (Q:Nat):∀ (p o:List Nat) (t:Nat),(Jeg Q p o t).length=p.length
 | [],_,_=>rfl
 | _::_,[],_=>rfl
 | c::p,d::o,t=>by simp [Jeg,Jbh Q p o t]
theorem Jds {Q:Nat} (h:1<Q):∀ (p o:List Nat) (t:Nat),(∀ c∈p,c<Q)→∀ c∈Jeg Q p o t,c<Q
 | [],_,_,_,c,hc=>by cases hc
 | e::p,[],_,hp,c,hc=>hp c hc
 | e::p,d::o,t,hp,c,hc=>by
  rcases List.mem_cons.1 hc with rfl | hc
  ·exact Nat.mod_lt _ (by omega)
  ·exact Jds h p o t (fun c hc=>hp c (List.mem_cons_of_mem _ hc)) c hc
theorem Jdu {Q:Nat}:∀ (p o:List Nat) (t:Nat) (x:Int),o.length≤p.length→Cg Q (evZ (zs (Jeg Q p o t)) x) (evZ (zs p) x+(t:Int)*evZ (zs o) x)
 | [],o,t,x,hl=>by rw [List.length_eq_zero_iff.1 (Nat.le_zero.1 hl)];exact Cg.of_eq (by simp [Jeg,zs,evZ])
 | e::p,[],t,x,_=>Cg.of_eq (by simp [Jeg,zs,evZ])
 | c::p,d::o,t,x,hl=>by
  have h:=Jdu (Q:=Q) p o t x (by simpa using hl)
  have h1:Cg Q (((d*t%Q+c)%Q:Nat):Int) ((d:Int)*(t:Int)+(c:Int)):=by
   rw [Int.natCast_emod,Int.natCast_add,Int.natCast_emod,Int.natCast_mul]
   exact (Cg.emod Q _).trans ((Cg.emod Q _).add (Cg.refl Q _))
  simp only [Jeg,zs,List.map_cons,evZ] at h ⊢
  exact (h1.add (Cg.mulL x h)).trans (Cg.of_eq (by grind))
theorem Jdt (Q:Nat):∀ (p o:List Nat) (t i:Nat),o.length≤i→(Jeg Q p o t)[i]? = p[i]?
 | [],_,_,_,_=>rfl
 | _::_,[],_,_,_=>rfl
 | c::p,d::o,t,0,h=>by simp at h
 | c::p,d::o,t,i+1,h=>by simp only [Jeg,List.getElem?_cons_succ];exact Jdt Q p o t i (by simpa using h)
def prZ (a:Int):List Int→Int
 | []=>1
 | y::l=>(a-y)*prZ a l
theorem Jde (a:Int):∀ (l m:List Int),prZ a (l++m)=prZ a l*prZ a m
 | [],m=>by simp [prZ]
 | y::l,m=>by simp only [List.cons_append,prZ,Jde a l m];grind
theorem prZ_unit {Q:Nat} {a:Int}:∀ {l:List Int},U Q (prZ a l)→∀ y∈l,U Q (a-y)
 | [],_,y,h=>by cases h
 | z::l,h,y,hy=>by
  rcases List.mem_cons.1 hy with rfl | hy
  ·exact U.left h
  ·exact prZ_unit (U.right h) y hy
theorem Jck {Q:Nat} {a:Int}:∀ {l:List Int},(∀ y∈l,U Q (a-y))→U Q (prZ a l)
 | [],_=>U.one Q
 | z::l,h=>(h z List.mem_cons_self).mul (Jck fun y hy=>h y (List.mem_cons_of_mem _ hy))
theorem Jej {a:Int}:∀ {l:List Int},a∈l→prZ a l=0
 | [],h=>by cases h
 | y::l,h=>by
  rcases List.mem_cons.1 h with rfl | h
  ·simp [prZ]
  ·simp [prZ,Jej h]
def nz (Q:Nat) (p:List Nat) (x:Nat):List Nat:=Jeg Q (0::p) p (Ki Q (-(x:Int)))
theorem nz_len (Q:Nat) (p:List Nat) (x:Nat):(nz Q p x).length=p.length+1:=by simp [nz,Jbh]
theorem nz_ev {Q:Nat} (h:1<Q) (p:List Nat) (x:Nat) (y:Int):Cg Q (evZ (zs (nz Q p x)) y) ((y-(x:Int))*evZ (zs p) y):=by
 refine (Jdu (0::p) p _ y (by simp)).trans ?_
 have h1:evZ (zs (0::p)) y=y*evZ (zs p) y:=by simp [zs,evZ]
 rw [h1]
 exact ((Cg.refl Q _).add ((Xd h (-(x:Int))).mul (Cg.refl Q (evZ (zs p) y)))).trans (Cg.of_eq (by grind))
theorem nz_lt {Q:Nat} (h:1<Q) {p:List Nat} (x:Nat) (hp:∀ c∈p,c<Q):∀ c∈nz Q p x,c<Q:=
 Jds h _ _ _ fun c hc=>by
  rcases List.mem_cons.1 hc with rfl | hc
  ·omega
  ·exact hp c hc
structure Nw (Q:Nat) (xs vs:List Nat) (i:Nat) (p o:List Nat):Prop where
 lp:p.length=xs.length
 lo:o.length=i+1
 bp:∀ c∈p,c<Q
 bo:∀ c∈o,c<Q
 far:∀ j,i≤j→j<p.length→p[j]? = some 0
 ev:∀ k (h:k<xs.length),k<i→Cg Q (evZ (zs p) (xs[k]:Int)) ((vs.getD k 0:Nat):Int)
 no:∀ y,Cg Q (evZ (zs o) y) (prZ y ((zs xs).take i))
 un:((zs xs).take i).Pairwise fun a b=>U Q (b-a)
theorem Nw.start {Q:Nat} (h:1<Q) (xs vs:List Nat):Nw Q xs vs 0 (List.replicate xs.length 0) [1]:=by
 refine ⟨by simp,rfl,fun c hc=>?_,fun c hc=>?_,fun j _ hj=>?_,fun k _ h=>absurd h (Nat.not_lt_zero _),fun y=>?_,?_⟩
 ·rw [List.eq_of_mem_replicate hc];omega
 ·rw [List.mem_singleton.1 hc];exact h
 ·rw [List.getElem?_replicate,if_pos (by simpa using hj)]
 ·exact Cg.of_eq (by simp [zs,evZ,prZ])
 ·simp
theorem Jal {p:List Nat} {i:Nat} (h:∀ j,i≤j→j<p.length→p[j]? = some 0) (x:Int):evZ (zs (p.take i)) x=evZ (zs p) x:=by
 have e:zs p=zs (p.take i)++zs (p.drop i):=by unfold zs;rw [← List.map_append,List.take_append_drop]
 have e2:=Jak (zs (p.drop i)) x fun c hc=>by
  obtain ⟨n,hn,rfl⟩:=List.mem_map.1 hc
  obtain ⟨j,hj,rfl⟩:=List.getElem_of_mem hn
  rw [List.length_drop] at hj
  have:=h (i+j) (by omega) (by omega)
  rw [List.getElem_drop]
  rw [List.getElem?_eq_getElem (by omega)] at this
  rw [Option.some.inj this];rfl
 rw [e,Jcp,e2,Int.mul_zero,Int.add_zero]
theorem Nw.step {Q:Nat} (h:1<Q) {xs vs:List Nat} {i:Nat} {p o:List Nat} (N:Nw Q xs vs i p o) (hi:i<xs.length) {t:Nat}
  (hu:U Q (evZ (zs o) (xs[i]:Int))) (ht:Cg Q ((t:Int)*evZ (zs o) (xs[i]:Int)) (((vs.getD i 0:Nat):Int)-evZ (zs (p.take i)) (xs[i]:Int))):Nw Q xs vs (i+1) (Jeg Q p o t) (nz Q o xs[i]):=by
 have hol:o.length≤p.length:=by rw [N.lo,N.lp];omega
 have htk:(zs xs).take (i+1)=(zs xs).take i++[(xs[i]:Int)]:=by rw [List.take_succ_eq_append_getElem (by rw [Jar];exact hi),Jfd hi]
 have hno:=N.no (xs[i]:Int)
 refine ⟨by rw [Jbh,N.lp],by rw [nz_len,N.lo],Jds h _ _ _ N.bp,nz_lt h _ N.bo,fun j h1 h2=>?_,fun k hk h1=>?_,fun y=>?_,?_⟩
 ·rw [Jbh] at h2
  rw [Jdt Q p o t j (by rw [N.lo];omega)]
  exact N.far j (by omega) h2
 ·refine (Jdu p o t _ hol).trans ?_
  by_cases e:k=i
  ·subst e
   refine ((Cg.refl Q _).add ht).trans (Cg.of_eq ?_)
   rw [Jal N.far];omega
  ·have hk2:k<i:=by omega
   have h2:=N.ev k hk hk2
   have h3:Cg Q (evZ (zs o) (xs[k]:Int)) 0:=(N.no _).trans (Cg.of_eq (Jej (by
    rw [List.mem_take_iff_getElem]
    exact ⟨k,by rw [Jar];omega,Jfd hk⟩)))
   exact (h2.add (Cg.mulL _ h3)).trans (Cg.of_eq (by omega))
 ·refine (nz_ev h o xs[i] y).trans ?_
  rw [htk,Jde]
  exact (Cg.mulL _ (N.no y)).trans (Cg.of_eq (by simp only [prZ];grind))
 ·rw [htk,List.pairwise_append]
  refine ⟨N.un,by simp,fun a ha b hb=>?_⟩
  rw [List.mem_singleton.1 hb]
  exact prZ_unit (U.cg hno hu) a ha
theorem Nw.none {Q:Nat} {xs vs:List Nat} {i:Nat} {p o:List Nat} (N:Nw Q xs vs i p o) (hi:i<xs.length) (hu:¬ U Q (evZ (zs o) (xs[i]:Int))):¬ (zs xs).Pairwise fun a b=>U Q (b-a):=by
 intro h
 refine hu (U.cg (N.no _).symm (Jck fun y hy=>?_))
 have e:zs xs=(zs xs).take i++(zs xs).drop i:=(List.take_append_drop _ _).symm
 rw [e,List.pairwise_append] at h
 refine h.2.2 y hy _ ?_
 rw [List.mem_drop_iff_getElem]
 exact ⟨0,by rw [Jar];omega,by rw [Jfd (by omega)];simp⟩
end Go.Proofs.Ytcbnmdkmfdjpiaa
