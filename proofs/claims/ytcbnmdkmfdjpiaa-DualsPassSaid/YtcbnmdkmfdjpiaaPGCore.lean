import Derived.ChangeArms
import Derived.Deep.Slices
import Derived.Deep.Cut
import Derived.Test.YtcbnmdkmfdjpiaaPMod11
import Derived.Test.YtcbnmdkmfdjpiaaPMult
import Derived.Test.YtcbnmdkmfdjpiaaPShort
namespace Go.Proofs.Ytcbnmdkmfdjpiaa.Pr
set_option maxRecDepth 100000
set_option linter.unusedSimpArgs false
set_option linter.unusedVariables false

def Pri (n:Nat):Prop:=2≤n∧∀ d,d∣n→d=1∨d=n

theorem Pri.cop {p a:Nat} (hp:Pri p) (h:¬ p∣a):Nat.gcd p a=1:=by
 rcases hp.2 _ (Nat.gcd_dvd_left p a) with h1 | h1
 ·exact h1
 ·exact absurd (h1 ▸ Nat.gcd_dvd_right p a) h

theorem Pri.dvd_mul {p a b:Nat} (hp:Pri p) (h:p∣a*b):p∣a∨p∣b:=by
 rcases Decidable.em (p∣a) with ha | ha
 ·exact Or.inl ha
 ·exact Or.inr (Nat.Coprime.dvd_of_dvd_mul_left (hp.cop ha) h)

theorem not_pri {n:Nat} (h2:2≤n) (h:¬ Pri n):∃ d e,n=d*e∧2≤d∧d≤e:=by
 have h':∃ d,d∣n∧d≠1∧d≠n:=Classical.byContradiction fun hc=>h ⟨h2,fun d hd=>
  (Decidable.em (d=1)).elim Or.inl fun h1=>(Decidable.em (d=n)).elim Or.inr fun hn=>absurd ⟨d,hd,h1,hn⟩ hc⟩
 obtain ⟨d,⟨e,hde⟩,h1,hn⟩:=h'
 have hd0:d≠0:=fun h0=>by subst h0;rw [Nat.zero_mul] at hde;omega
 have he0:e≠0:=fun h0=>by subst h0;rw [Nat.mul_zero] at hde;omega
 have he1:e≠1:=fun h0=>by subst h0;rw [Nat.mul_one] at hde;exact hn hde.symm
 rcases Nat.le_total d e with hl | hl
 ·exact ⟨d,e,hde,by omega,hl⟩
 ·exact ⟨e,d,by rw [hde,Nat.mul_comm],by omega,hl⟩

theorem ex_pri:∀ k n:Nat,n≤k→2≤n→∃ p,Pri p∧p∣n∧(p*p≤n∨Pri n)
 | 0,n,hk,h2=>by omega
 | k+1,n,hk,h2=>by
   rcases Classical.em (Pri n) with hp | hp
   ·exact ⟨n,hp,Nat.dvd_refl n,Or.inr hp⟩
   ·obtain ⟨d,e,hde,hd,hle⟩:=not_pri h2 hp
    have hdn:d<n:=by
     have:=Nat.mul_le_mul_left d (show 2≤e by omega)
     rw [← hde] at this;omega
    obtain ⟨p,hpp,hpd,_⟩:=ex_pri k d (by omega) hd
    have hpl:p≤d:=Nat.le_of_dvd (by omega) hpd
    exact ⟨p,hpp,Nat.dvd_trans hpd ⟨e,hde⟩,Or.inl (hde ▸ Nat.mul_le_mul hpl (Nat.le_trans hpl hle))⟩

theorem pri_of_small {n:Nat} (h2:2≤n) (h:∀ d,2≤d→d*d≤n→n%d≠0):Pri n:=by
 rcases Classical.em (Pri n) with hp | hp
 ·exact hp
 ·obtain ⟨d,e,hde,hd,hle⟩:=not_pri h2 hp
  exact absurd (by rw [hde];exact Nat.mul_mod_right d e) (h d hd (hde ▸ Nat.mul_le_mul_left d hle))

theorem not_pri_of {n d:Nat} (h2:2≤d) (hd:d<n) (h:n%d=0):¬ Pri n:=fun hp=>by
 rcases hp.2 d (Nat.dvd_of_mod_eq_zero h) with h1 | h1 <;> omega

theorem perm_of_sub:∀ (l m:List Nat),l.Nodup→(∀ x∈l,x∈m)→m.length≤l.length→l.Perm m
 | [],m,_,_,hl=>by
   have:m=[]:=List.eq_nil_of_length_eq_zero (by simpa using hl)
   rw [this]
 | x::l,m,hn,hs,hl=>by
   have hx:x∈m:=hs x (List.mem_cons_self ..)
   have hn':=List.nodup_cons.mp hn
   have ih:=perm_of_sub l (m.erase x) hn'.2 (fun y hy=>(List.mem_erase_of_ne (fun h=>by subst h;exact hn'.1 hy)).mpr (hs y (List.mem_cons_of_mem _ hy)))
    (by rw [List.length_erase_of_mem hx];simp only [List.length_cons] at hl;omega)
   exact (ih.cons x).trans (List.perm_cons_erase hx).symm

def pr (l:List Nat):Nat:=l.foldr (·*·) 1
theorem Jev:pr []=1:=rfl
theorem Jbl (x:Nat) (l:List Nat):pr (x::l)=x*pr l:=rfl
theorem pr_perm {l m:List Nat} (h:l.Perm m):pr l=pr m:=by
 induction h with
 | nil=>rfl
 | cons x _ ih=>simp only [Jbl,ih]
 | swap x y l=>simp only [Jbl];rw [← Nat.mul_assoc,← Nat.mul_assoc,Nat.mul_comm y x]
 | trans _ _ h1 h2=>exact h1.trans h2

theorem pr_map (a p:Nat) (l:List Nat):pr (l.map fun x=>a*x%p)%p=a^l.length*pr l%p:=by
 induction l with
 | nil=>simp [Jev]
 | cons x l ih=>
   simp only [List.map_cons,Jbl,List.length_cons,Nat.pow_succ]
   rw [Nat.mul_mod,Nat.mod_mod,ih,← Nat.mul_mod]
   congr 1
   rw [Nat.mul_assoc,Nat.mul_left_comm x,← Nat.mul_assoc a,Nat.mul_comm a (a^l.length),Nat.mul_assoc (a^l.length)]

theorem pr_cop (p:Nat) (hp:Pri p):∀ l:List Nat,(∀ x∈l,¬ p∣x)→¬ p∣pr l
 | [],_,h=>by
   have:=Nat.le_of_dvd (by decide) h
   have:=hp.1
   rw [Jev] at *
   omega
 | x::l,hl,h=>by
   rw [Jbl] at h
   rcases hp.dvd_mul h with h1 | h1
   ·exact hl x (List.mem_cons_self ..) h1
   ·exact pr_cop p hp l (fun y hy=>hl y (List.mem_cons_of_mem _ hy)) h1

theorem mod_cancel {p a x y:Nat} (hp:Pri p) (ha:¬ p∣a) (h:a*x%p=a*y%p):x%p=y%p:=by
 have key:∀ x y:Nat,x≤y→a*x%p=a*y%p→x%p=y%p:=by
  intro x y hxy h
  have h1:p∣a*(y-x):=by
   rw [Nat.mul_sub]
   exact Nat.dvd_of_mod_eq_zero (Nat.sub_mod_eq_zero_of_mod_eq h.symm)
  rcases hp.dvd_mul h1 with h2 | h2
  ·exact absurd h2 ha
  ·obtain ⟨k,hk⟩:=h2
   have:y=x+p*k:=by omega
   rw [this,Nat.add_mul_mod_self_left]
 rcases Nat.le_total x y with hl | hl
 ·exact key x y hl h
 ·exact (key y x hl h.symm).symm

theorem fermat {p a:Nat} (hp:Pri p) (ha:¬ p∣a):a^(p-1)%p=1:=by
 have hp2:=hp.1
 let L:=List.range' 1 (p-1)
 have hL:∀ x∈L,1≤x∧x<p:=fun x hx=>by
  have:=List.mem_range'_1.mp hx
  omega
 have hnd:∀ x∈L,¬ p∣x:=fun x hx h=>by
  have:=Nat.le_of_dvd (by have:=(hL x hx).1;omega) h
  have:=(hL x hx).2
  omega
 have hN:L.Nodup:=List.nodup_range'
 have hM:(L.map fun x=>a*x%p).Nodup:=by
  refine List.pairwise_map.mpr (List.Pairwise.imp_of_mem ?_ hN)
  intro x y hx hy hne he
  have:=mod_cancel hp ha he
  rw [Nat.mod_eq_of_lt (hL x hx).2,Nat.mod_eq_of_lt (hL y hy).2] at this
  exact hne this
 have hperm:(L.map fun x=>a*x%p).Perm L:=by
  refine perm_of_sub _ _ hM ?_ (by simp)
  intro y hy
  obtain ⟨x,hx,rfl⟩:=List.mem_map.mp hy
  refine List.mem_range'_1.mpr ⟨?_,?_⟩
  ·rcases Nat.eq_zero_or_pos (a*x%p) with h0 | h0
   ·rcases hp.dvd_mul (Nat.dvd_of_mod_eq_zero h0) with h1 | h1
    ·exact absurd h1 ha
    ·exact absurd h1 (hnd x hx)
   ·exact h0
  ·have:=Nat.mod_lt (a*x) (show 0<p by omega)
   omega
 have h1:=pr_map a p L
 rw [pr_perm hperm] at h1
 have hlen:L.length=p-1:=List.length_range'
 rw [hlen] at h1
 have h2:pr L*1%p=pr L*a^(p-1)%p:=by rw [Nat.mul_one,h1,Nat.mul_comm]
 have h3:=mod_cancel hp (pr_cop p hp L hnd) h2
 rw [← h3,Nat.mod_eq_of_lt (by omega)]

theorem pow_one_mul {w p a:Nat} (h1:1<p) (h:w^a%p=1) (k:Nat):w^(a*k)%p=1:=by
 rw [Nat.pow_mul,Nat.pow_mod,h,Nat.one_pow,Nat.mod_eq_of_lt h1]

theorem pow_one_gcd {w p:Nat} (h1:1<p) (a b:Nat):w^a%p=1→w^b%p=1→w^Nat.gcd a b%p=1:=by
 induction a,b using Nat.gcd.induction with
 | H0 n=>intro _ h;rw [Nat.gcd_zero_left];exact h
 | H1 m n hm ih=>
   intro ha hb
   rw [Nat.gcd_rec]
   refine ih ?_ ha
   have hd:n=m*(n/m)+n%m:=(Nat.div_add_mod n m).symm
   have hb':w^(m*(n/m))*w^(n%m)%p=1:=by rw [← Nat.pow_add,← hd];exact hb
   rw [Nat.mul_mod,pow_one_mul h1 ha,Nat.one_mul,Nat.mod_mod] at hb'
   exact hb'

theorem Pri.pow_cop {q:Nat} (hq:Pri q) {k:Nat} (h:¬ q∣k) (e:Nat):Nat.Coprime (q^e) k:=
 Nat.Coprime.pow_left e (hq.cop h)

theorem pri_pow_cop {q r:Nat} (hq:Pri q) (hr:Pri r) (hne:q≠r) (e f:Nat):Nat.Coprime (q^e) (r^f):=
 Nat.Coprime.pow e f (hq.cop fun h=>by
  have:=hq.1
  rcases hr.2 q h with h1 | h1 <;> omega)

theorem prod_dvd (m:Nat):∀ L:List (Nat × Nat),(L.map Prod.fst).Nodup→(∀ x∈L,Pri x.1∧x.1^x.2∣m) →
  pr (L.map fun x=>x.1^x.2)∣m
 | [],_,_=>by simp [Jev]
 | x::L,hn,h=>by
   simp only [List.map_cons] at hn
   have hn':=List.nodup_cons.mp hn
   simp only [List.map_cons,Jbl]
   refine Nat.Coprime.mul_dvd_of_dvd_of_dvd ?_ (h x (List.mem_cons_self ..)).2 (prod_dvd m L hn'.2 fun y hy=>h y (List.mem_cons_of_mem _ hy))
   have hx:=(h x (List.mem_cons_self ..)).1
   have:∀ M:List (Nat × Nat),(∀ y∈M,Pri y.1∧y.1≠x.1)→Nat.Coprime (x.1^x.2) (pr (M.map fun x=>x.1^x.2)):=by
    intro M hM
    induction M with
    | nil=>simp [Jev,Nat.Coprime]
    | cons y M ih=>
      simp only [List.map_cons,Jbl]
      refine Nat.Coprime.mul_right (pri_pow_cop hx (hM y (List.mem_cons_self ..)).1 (Ne.symm (hM y (List.mem_cons_self ..)).2) _ _) (ih fun z hz=>hM z (List.mem_cons_of_mem _ hz))
   exact this L fun y hy=>⟨(h y (List.mem_cons_of_mem _ hy)).1,fun he=>hn'.1 (he ▸ List.mem_map_of_mem hy)⟩

theorem pock (N w:Nat) (L:List (Nat × Nat)) (h2:2≤N) (hn:(L.map Prod.fst).Nodup) (hF:N<pr (L.map fun x=>x.1^x.2)*pr (L.map fun x=>x.1^x.2))
  (hw:w^(N-1)%N=1)
  (h:∀ x∈L,Pri x.1∧x.1^x.2∣N-1∧x.1∣N-1∧∀ p,p∣N→w^((N-1)/x.1)%p=1→p=1):Pri N:=by
 obtain ⟨p,hp,hpN,hs | hs⟩:=ex_pri N N (Nat.le_refl N) h2
 ·exfalso
  have hp2:=hp.1
  have hwp:w^(N-1)%p=1:=by
   have:w^(N-1)%N%p=w^(N-1)%p:=Nat.mod_mod_of_dvd _ hpN
   rw [hw,Nat.mod_eq_of_lt (by omega)] at this
   exact this.symm
  have hpw:¬ p∣w:=fun hd=>by
   have:w^(N-1)%p=0:=Nat.mod_eq_zero_of_dvd (Nat.dvd_trans hd (by rw [show N-1=(N-2)+1 by omega,Nat.pow_succ];exact Nat.dvd_mul_left _ _))
   omega
  have hf:=fermat hp hpw
  have hg:=pow_one_gcd (show 1<p by omega) (N-1) (p-1) hwp hf
  have hd:pr (L.map fun x=>x.1^x.2)∣p-1:=by
   refine prod_dvd (p-1) L hn fun x hx=>⟨(h x hx).1,?_⟩
   obtain ⟨hq,he,hq1,hno⟩:=h x hx
   obtain ⟨k,hk⟩:=Nat.gcd_dvd_left (N-1) (p-1)
   have hqk:¬ x.1∣k:=by
    rintro ⟨j,hj⟩
    have hdiv:(N-1)/x.1=Nat.gcd (N-1) (p-1)*j:=by
     refine Nat.div_eq_of_eq_mul_left (by have:=hq.1;omega) ?_
     rw [Nat.mul_assoc,Nat.mul_comm j,← hj]
     exact hk
    have:=hno p hpN (by rw [hdiv];exact pow_one_mul (by omega) hg j)
    omega
   have:x.1^x.2∣Nat.gcd (N-1) (p-1)*k:=by rw [← hk];exact he
   exact Nat.dvd_trans (Nat.Coprime.dvd_of_dvd_mul_right (hq.pow_cop hqk _) this) (Nat.gcd_dvd_right _ _)
  have hle:=Nat.le_of_dvd (by omega) hd
  have:=Nat.mul_le_mul (Nat.le_trans hle (Nat.sub_le p 1)) (Nat.le_trans hle (Nat.sub_le p 1))
  omega
 ·exact hs

def fac:Nat→Nat
 | 0=>1
 | n+1=>fac n*(n+1)

end Go.Proofs.Ytcbnmdkmfdjpiaa.Pr

namespace Go.Proofs.Ytcbnmdkmfdjpiaa.Pr
set_option maxRecDepth 100000
set_option linter.unusedSimpArgs false
set_option linter.unusedVariables false

def vp (q:Nat):Nat→Nat→Nat
 | 0,_=>0
 | k+1,m=>if m%q=0 then vp q k (m/q)+1 else 0

def ex (q m:Nat):Nat:=vp q m m
def gp (q m:Nat):Nat:=q^ex q m

theorem vp_dvd (q:Nat):∀ k m,q^vp q k m∣m
 | 0,m=>by simp [vp]
 | k+1,m=>by
   unfold vp
   split
   ·rename_i h
    rw [Nat.pow_succ]
    have:=vp_dvd q k (m/q)
    obtain ⟨c,hc⟩:=this
    refine ⟨c,?_⟩
    have hm:q*(m/q)=m:=Nat.mul_div_cancel' (Nat.dvd_of_mod_eq_zero h)
    calc m=q*(m/q):=hm.symm
     _=q*(q^vp q k (m/q)*c):=by rw [← hc]
     _=q^vp q k (m/q)*q*c:=by rw [← Nat.mul_assoc,Nat.mul_comm q]
   ·simp

theorem gp_dvd (q m:Nat):gp q m∣m:=vp_dvd q m m
inductive Rsn where
 | mk (n w:Nat) (ps:List Rsn)

def Rsn.n:Rsn→Nat | .mk n _ _=>n
def Rsn.w:Rsn→Nat | .mk _ w _=>w
def Rsn.ps:Rsn→List Rsn | .mk _ _ ps=>ps

mutual
def Rsn.cnt:Rsn→Nat
 | .mk _ _ ps=>cnts ps+1
def cnts:List Rsn→Nat
 | []=>0
 | r::rs=>r.cnt+cnts rs
end

open Classical in
noncomputable def priB (n:Nat):Bool:=decide (Pri n)
theorem priB_iff {n:Nat}:priB n=true ↔ Pri n:=by simp [priB]
theorem priB_not {n:Nat}:priB n=false ↔ ¬ Pri n:=by simp [priB]

def Jdz:List Nat→Bool
 | []=>true
 | [_]=>true
 | a::b::l=>decide (a<b) && Jdz (b::l)

def Jgb (m:Nat) (qs:List Nat):Nat:=pr (qs.map fun q=>gp q m)

def Jge (n w:Nat) (qs:List Nat):Bool:=
 Jdz qs && (qs.all fun q=>(n-1)%q==0) && decide (n<Jgb (n-1) qs*Jgb (n-1) qs) && decide (1<w) && decide (w<n) && decide (w^(n-1)%n=1)
  && qs.all fun q=>decide (Nat.gcd ((w^((n-1)/q)%n+n-1)%n) n=1)

mutual
noncomputable def Rsn.ok:Rsn→Bool
 | .mk n w ps=>if n<4294967296 then priB n && (decide (w=0) && ps.isEmpty) else oks ps && Jge n w (ps.map Rsn.n)
noncomputable def oks:List Rsn→Bool
 | []=>true
 | r::rs=>r.ok && oks rs
end

noncomputable def Rsn.holds (r:Rsn):Bool:=decide (r.cnt≤32) && r.ok

theorem rises_lt:∀ {l:List Nat} {a:Nat},Jdz (a::l)=true→∀ b∈l,a<b
 | x::l,a,h,b,hb=>by
   simp only [Jdz,Bool.and_eq_true,decide_eq_true_eq] at h
   rcases List.mem_cons.mp hb with h1 | h1
   ·subst h1;exact h.1
   ·exact Nat.lt_trans h.1 (rises_lt h.2 b h1)
theorem rises_tail {a:Nat} {l:List Nat} (h:Jdz (a::l)=true):Jdz l=true:=by
 cases l with
 | nil=>rfl
 | cons b l=>simp only [Jdz,Bool.and_eq_true] at h;exact h.2
theorem rises_nodup:∀ {l:List Nat},Jdz l=true→l.Nodup
 | [],_=>List.nodup_nil
 | a::l,h=>List.nodup_cons.mpr ⟨fun hm=>Nat.lt_irrefl a (rises_lt h a hm),rises_nodup (rises_tail h)⟩

theorem fprod_eq (m:Nat) (qs:List Nat):Jgb m qs=pr ((qs.map fun q=>(q,ex q m)).map fun x=>x.1^x.2):=by
 unfold Jgb
 rw [List.map_map]
 rfl

theorem gcd_no {n y p:Nat} (hn:1<n) (hp:p∣n) (hy:y%p=1) (hg:Nat.gcd ((y%n+n-1)%n) n=1):p=1:=by
 have hp0:p≠0:=fun h=>by subst h;rw [Nat.zero_dvd] at hp;omega
 rcases Nat.eq_or_lt_of_le (show 1≤p by omega) with h1 | h1
 ·exact h1.symm
 ·have h2:p∣(y%n+n-1)%n:=by
   refine (Nat.dvd_mod_iff hp).mpr ?_
   have h3:y%n%p=1:=by rw [Nat.mod_mod_of_dvd _ hp];exact hy
   have h4:y%n=p*(y%n/p)+1:=by
    have:=Nat.div_add_mod (y%n) p
    rw [h3] at this
    exact this.symm
   have h5:y%n+n-1=p*(y%n/p)+n:=by omega
   rw [h5]
   exact Nat.dvd_add (Nat.dvd_mul_right _ _) hp
  have:=Nat.dvd_gcd h2 hp
  rw [hg] at this
  exact Nat.dvd_one.mp this

theorem great_pri {n w:Nat} {qs:List Nat} (hn:1<n) (hp:∀ q∈qs,Pri q) (h:Jge n w qs=true):Pri n:=by
 simp only [Jge,Bool.and_eq_true,decide_eq_true_eq,List.all_eq_true,beq_iff_eq] at h
 obtain ⟨⟨⟨⟨⟨⟨hr,hd⟩,hF⟩,hw1⟩,hwn⟩,hw⟩,hg⟩:=h
 rw [fprod_eq] at hF
 refine pock n w _ hn ?_ hF hw ?_
 ·rw [List.map_map]
  have:(Prod.fst ∘ fun q=>(q,ex q (n-1)))=id:=rfl
  rw [this,List.map_id]
  exact rises_nodup hr
 ·intro x hx
  obtain ⟨q,hq,rfl⟩:=List.mem_map.mp hx
  exact ⟨hp q hq,gp_dvd q _,Nat.dvd_of_mod_eq_zero (hd q hq),fun p hpn hpw=>gcd_no hn hpn hpw (hg q hq)⟩

mutual
theorem ok_pri:∀ r:Rsn,r.ok=true→Pri r.n
 | .mk n w ps,h=>by
   unfold Rsn.ok at h
   split at h
   ·simp only [Bool.and_eq_true] at h
    exact priB_iff.mp h.1
   ·simp only [Bool.and_eq_true] at h
    refine great_pri (show 1<n by omega) ?_ h.2
    intro q hq
    obtain ⟨r,hr,rfl⟩:=List.mem_map.mp hq
    exact oks_pri ps h.1 r hr
theorem oks_pri:∀ l:List Rsn,oks l=true→∀ r∈l,Pri r.n
 | [],_,r,hr=>by simp at hr
 | x::l,h,r,hr=>by
   simp only [oks,Bool.and_eq_true] at h
   rcases List.mem_cons.mp hr with h1 | h1
   ·have:=ok_pri x h.1
    rw [h1]
    exact this
   ·exact oks_pri l h.2 r h1
end

end Go.Proofs.Ytcbnmdkmfdjpiaa.Pr

namespace Go.Proofs.Ytcbnmdkmfdjpiaa
set_option maxRecDepth 100000
open Go.RowKit
set_option linter.unusedSimpArgs false
set_option linter.unusedVariables false

open Pr (Rsn)
abbrev rv (n y:Nat) (s:Value):Value:=.agg #[.int .u64 (wd n 0),.int .u64 (wd n 1),.int .u64 (wd n 2),.int .u64 (wd n 3),.int .u64 (wd y 0),.int .u64 (wd y 1),.int .u64 (wd y 2),.int .u64 (wd y 3),s]

def W4 (w:World) (g off X:Nat):Prop:=X<2^256∧∀ k,k<4→w.cell? ⟨g,off+k,none⟩=some (.int .u64 (wd X k))

mutual
def RsAt (w:World):Rsn→Nat→Nat→Prop
 | .mk n y ps,g,off=>W4 w g off n∧W4 w g (off+4) y∧∃ a cap,w.cell? ⟨g,off+8,none⟩=some (.slice a ps.length cap)∧ps.length≤cap∧cap≤9223372036854775807∧(a=none→cap=0) ∧
   (ps=[]∨∃ g' off',a=some ⟨g',off',none⟩∧RsLs w ps g' off')
def RsLs (w:World):List Rsn→Nat→Nat→Prop
 | [],_,_=>True
 | r::rs,g,off=>RsAt w r g off∧RsLs w rs g (off+9)
end
def Sl (w:World) (a:Option Addr) (cap:Nat) (ps:List Rsn):Prop:=
 ps.length≤cap∧cap≤9223372036854775807∧(a=none→cap=0)∧(ps=[]∨∃ g off,a=some ⟨g,off,none⟩∧RsLs w ps g off)

theorem W4.keep {w w':World} (hk:∀ p v,w.cell? p=some v→w'.cell? p=some v) {g off X:Nat} (h:W4 w g off X):W4 w' g off X:=⟨h.1,fun k hk'=>hk _ _ (h.2 k hk')⟩
mutual
theorem RsAt.keep {w w':World} (hk:∀ p v,w.cell? p=some v→w'.cell? p=some v):∀ (r:Rsn) {g off:Nat},RsAt w r g off→RsAt w' r g off
 | .mk n y ps,g,off,h=>by
   simp only [RsAt] at h ⊢
   obtain ⟨h1,h2,a,cap,hc,hl,hm,hn,hp⟩:=h
   refine ⟨h1.keep hk,h2.keep hk,a,cap,hk _ _ hc,hl,hm,hn,?_⟩
   rcases hp with h | ⟨g',off',e,h⟩
   ·exact Or.inl h
   ·exact Or.inr ⟨g',off',e,RsLs.keep hk ps h⟩
theorem RsLs.keep {w w':World} (hk:∀ p v,w.cell? p=some v→w'.cell? p=some v):∀ (ps:List Rsn) {g off:Nat},RsLs w ps g off→RsLs w' ps g off
 | [],_,_,_=>by simp only [RsLs]
 | r::rs,g,off,h=>by
   simp only [RsLs] at h ⊢
   exact ⟨RsAt.keep hk r h.1,RsLs.keep hk rs h.2⟩
end
theorem Sl.keep {w w':World} (hk:∀ p v,w.cell? p=some v→w'.cell? p=some v) {a:Option Addr} {cap:Nat} {ps:List Rsn} (h:Sl w a cap ps):Sl w' a cap ps:=by
 obtain ⟨hl,hm,hn,hp⟩:=h
 refine ⟨hl,hm,hn,?_⟩
 rcases hp with h | ⟨g',off',e,h⟩
 ·exact Or.inl h
 ·exact Or.inr ⟨g',off',e,RsLs.keep hk ps h⟩
theorem Sl.on {w w':World} {a:Option Addr} {cap:Nat} {ps:List Rsn} (h:Sl w a cap ps) (hb:Below w.heap.size w w'):Sl w' a cap ps:=h.keep fun _ _=>cell_on hb

theorem RsLs.get {w:World}:∀ {ps:List Rsn} {g off i:Nat} (h:RsLs w ps g off) (hi:i<ps.length),RsAt w ps[i] g (off+9*i)
 | r::rs,g,off,0,h,_=>by simp only [RsLs] at h;exact h.1
 | r::rs,g,off,i+1,h,hi=>by
   simp only [RsLs] at h
   have:=RsLs.get (i:=i) h.2 (by simpa using hi)
   rw [show off+9+9*i=off+9*(i+1) by omega] at this
   exact this
theorem RsLs.of {w:World}:∀ {ps:List Rsn} {g off:Nat},(∀ i (hi:i<ps.length),RsAt w ps[i] g (off+9*i))→RsLs w ps g off
 | [],_,_,_=>by simp only [RsLs]
 | r::rs,g,off,h=>by
   simp only [RsLs]
   refine ⟨h 0 (by simp),RsLs.of fun i hi=>?_⟩
   have:=h (i+1) (by simpa using hi)
   rw [show off+9+9*i=off+9*(i+1) by omega]
   exact this
theorem Sl.get {w:World} {a:Option Addr} {cap:Nat} {ps:List Rsn} (h:Sl w a cap ps) {i:Nat} (hi:i<ps.length):∃ g off,a=some ⟨g,off,none⟩∧RsAt w ps[i] g (off+9*i):=by
 rcases h.2.2.2 with h | ⟨g,off,e,h⟩
 ·subst h;simp at hi
 ·exact ⟨g,off,e,h.get hi⟩

open Go.ChangeShapes Go.WideShapes Go.ChangeAt Go.Deep
instance : Inhabited Rsn := ⟨.mk 0 0 []⟩
section
variable {H:Type} {enc:TypeId × Value→H} {w:World} {held:Bool}
end
section
variable (x:Operand) (dst:Option Tmp) (ty:TypeId) (pos:String) (after:Array Edge) (guard:Option (Nat × Bool)) (ρ:Operand→Value) (w:World) (g:Nat) (u0 u1 u2 u3 u4 u5 u6 u7 u8:Value)
theorem buildZ:(execOp ρ ⟨dst,.build 24 #[],ty,pos,after,guard⟩).run Try.prog w=.ok (.value (.agg #[.int .u64 0,.int .u64 0,.int .u64 0,.int .u64 0])) w:=by
 simp [execOp,go_sem]
end
section
variable {P:Program} {ops:Array Oper} {Q:Exit→Act→World→Prop} {md:Region.Mode} {S:World→Prop} {a:Act} {W:World} {cores:List Core}
end
abbrev grp (P Q G H:Nat):Value:=.agg #[.int .u64 (wd P 0),.int .u64 (wd P 1),.int .u64 (wd P 2),.int .u64 (wd P 3),.int .u64 (wd Q 0),.int .u64 (wd Q 1),.int .u64 (wd Q 2),.int .u64 (wd Q 3),.int .u64 (wd G 0),.int .u64 (wd G 1),.int .u64 (wd G 2),.int .u64 (wd G 3),.int .u64 (wd H 0),.int .u64 (wd H 1),.int .u64 (wd H 2),.int .u64 (wd H 3)]
section
variable (x:Operand) (dst:Option Tmp) (ty:TypeId) (pos:String) (after:Array Edge) (guard:Option (Nat × Bool)) (ρ:Operand→Value) (w:World) (g:Nat) (u0 u1 u2 u3 u4 u5 u6 u7 u8 u9 u10 u11 u12 u13 u14 u15:Value)
theorem fieldG0 (hx:ρ x=.pointer (some ⟨g,0,none⟩)):(execOp ρ ⟨dst,.fieldAddr 26 x 0,ty,pos,after,guard⟩).run Try.prog w=.ok (.value (.pointer (some ⟨g,0,none⟩))) w:=by
 simp [execOp,hx,go_sem]
theorem fieldG1 (hx:ρ x=.pointer (some ⟨g,0,none⟩)):(execOp ρ ⟨dst,.fieldAddr 26 x 1,ty,pos,after,guard⟩).run Try.prog w=.ok (.value (.pointer (some ⟨g,4,none⟩))) w:=by
 simp [execOp,hx,go_sem]
theorem fieldG2 (hx:ρ x=.pointer (some ⟨g,0,none⟩)):(execOp ρ ⟨dst,.fieldAddr 26 x 2,ty,pos,after,guard⟩).run Try.prog w=.ok (.value (.pointer (some ⟨g,8,none⟩))) w:=by
 simp [execOp,hx,go_sem]
theorem fieldG3 (hx:ρ x=.pointer (some ⟨g,0,none⟩)):(execOp ρ ⟨dst,.fieldAddr 26 x 3,ty,pos,after,guard⟩).run Try.prog w=.ok (.value (.pointer (some ⟨g,12,none⟩))) w:=by
 simp [execOp,hx,go_sem]
theorem loadG0 (hx:ρ x=.pointer (some ⟨g,0,none⟩)) (h:At w g 26 #[u0,u1,u2,u3,u4,u5,u6,u7,u8,u9,u10,u11,u12,u13,u14,u15]) :
  (execOp ρ ⟨dst,.load 24 x,ty,pos,after,guard⟩).run Try.prog w=.ok (.value (.agg #[u0,u1,u2,u3])) w:=by
 have c0:w.cell? ⟨g,0,none⟩=some u0:=h.cell 0
 have c1:w.cell? ⟨g,1,none⟩=some u1:=h.cell 1
 have c2:w.cell? ⟨g,2,none⟩=some u2:=h.cell 2
 have c3:w.cell? ⟨g,3,none⟩=some u3:=h.cell 3
 simp [execOp,hx,go_sem,c0,c1,c2,c3]
theorem loadG1 (hx:ρ x=.pointer (some ⟨g,4,none⟩)) (h:At w g 26 #[u0,u1,u2,u3,u4,u5,u6,u7,u8,u9,u10,u11,u12,u13,u14,u15]) :
  (execOp ρ ⟨dst,.load 24 x,ty,pos,after,guard⟩).run Try.prog w=.ok (.value (.agg #[u4,u5,u6,u7])) w:=by
 have c0:w.cell? ⟨g,4,none⟩=some u4:=h.cell 4
 have c1:w.cell? ⟨g,5,none⟩=some u5:=h.cell 5
 have c2:w.cell? ⟨g,6,none⟩=some u6:=h.cell 6
 have c3:w.cell? ⟨g,7,none⟩=some u7:=h.cell 7
 simp [execOp,hx,go_sem,c0,c1,c2,c3]
theorem loadG2 (hx:ρ x=.pointer (some ⟨g,8,none⟩)) (h:At w g 26 #[u0,u1,u2,u3,u4,u5,u6,u7,u8,u9,u10,u11,u12,u13,u14,u15]) :
  (execOp ρ ⟨dst,.load 24 x,ty,pos,after,guard⟩).run Try.prog w=.ok (.value (.agg #[u8,u9,u10,u11])) w:=by
 have c0:w.cell? ⟨g,8,none⟩=some u8:=h.cell 8
 have c1:w.cell? ⟨g,9,none⟩=some u9:=h.cell 9
 have c2:w.cell? ⟨g,10,none⟩=some u10:=h.cell 10
 have c3:w.cell? ⟨g,11,none⟩=some u11:=h.cell 11
 simp [execOp,hx,go_sem,c0,c1,c2,c3]
theorem loadG3 (hx:ρ x=.pointer (some ⟨g,12,none⟩)) (h:At w g 26 #[u0,u1,u2,u3,u4,u5,u6,u7,u8,u9,u10,u11,u12,u13,u14,u15]) :
  (execOp ρ ⟨dst,.load 24 x,ty,pos,after,guard⟩).run Try.prog w=.ok (.value (.agg #[u12,u13,u14,u15])) w:=by
 have c0:w.cell? ⟨g,12,none⟩=some u12:=h.cell 12
 have c1:w.cell? ⟨g,13,none⟩=some u13:=h.cell 13
 have c2:w.cell? ⟨g,14,none⟩=some u14:=h.cell 14
 have c3:w.cell? ⟨g,15,none⟩=some u15:=h.cell 15
 simp [execOp,hx,go_sem,c0,c1,c2,c3]
theorem loadG (hx:ρ x=.pointer (some ⟨g,0,none⟩)) (h:At w g 26 #[u0,u1,u2,u3,u4,u5,u6,u7,u8,u9,u10,u11,u12,u13,u14,u15]) :
  (execOp ρ ⟨dst,.load 26 x,ty,pos,after,guard⟩).run Try.prog w=.ok (.value (.agg #[u0,u1,u2,u3,u4,u5,u6,u7,u8,u9,u10,u11,u12,u13,u14,u15])) w:=by
 have c0:w.cell? ⟨g,0,none⟩=some u0:=h.cell 0
 have c1:w.cell? ⟨g,1,none⟩=some u1:=h.cell 1
 have c2:w.cell? ⟨g,2,none⟩=some u2:=h.cell 2
 have c3:w.cell? ⟨g,3,none⟩=some u3:=h.cell 3
 have c4:w.cell? ⟨g,4,none⟩=some u4:=h.cell 4
 have c5:w.cell? ⟨g,5,none⟩=some u5:=h.cell 5
 have c6:w.cell? ⟨g,6,none⟩=some u6:=h.cell 6
 have c7:w.cell? ⟨g,7,none⟩=some u7:=h.cell 7
 have c8:w.cell? ⟨g,8,none⟩=some u8:=h.cell 8
 have c9:w.cell? ⟨g,9,none⟩=some u9:=h.cell 9
 have c10:w.cell? ⟨g,10,none⟩=some u10:=h.cell 10
 have c11:w.cell? ⟨g,11,none⟩=some u11:=h.cell 11
 have c12:w.cell? ⟨g,12,none⟩=some u12:=h.cell 12
 have c13:w.cell? ⟨g,13,none⟩=some u13:=h.cell 13
 have c14:w.cell? ⟨g,14,none⟩=some u14:=h.cell 14
 have c15:w.cell? ⟨g,15,none⟩=some u15:=h.cell 15
 simp [execOp,hx,go_sem,c0,c1,c2,c3,c4,c5,c6,c7,c8,c9,c10,c11,c12,c13,c14,c15]
end
end Go.Proofs.Ytcbnmdkmfdjpiaa
