/-
 Numbers that are prime,and why: Fermat's,Wilson's and Pocklington's sentences. Nothing here speaks of the program.
-/

namespace Go.Proofs.YtlphnfajhpkleaaDoor.Pr
set_option linter.unusedSimpArgs false
set_option linter.unusedVariables false

/-- A number with no divisor but 1 and itself. -/
def Pri (n:Nat):Prop:=2≤n∧∀ d,d∣n→d=1∨d=n

theorem Pri.cop {p a:Nat} (hp:Pri p) (h:¬ p∣a):Nat.gcd p a=1:=by
 rcases hp.2 _ (Nat.gcd_dvd_left p a) with h1 | h1
 ·exact h1
 ·exact absurd (h1 ▸ Nat.gcd_dvd_right p a) h

theorem Pri.dvd_mul {p a b:Nat} (hp:Pri p) (h:p∣a*b):p∣a∨p∣b:=by
 rcases Decidable.em (p∣a) with ha | ha
 ·exact Or.inl ha
 ·exact Or.inr (Nat.Coprime.dvd_of_dvd_mul_left (hp.cop ha) h)

theorem not_pri {n:Nat} (h2:2≤n) (h:¬ Pri n):∃ d e,n=d*e∧2≤d∧d≤e:=by
 have h':∃ d,d∣n∧d≠1∧d≠n:=Classical.byContradiction fun hc=>h ⟨h2,fun d hd=>
  (Decidable.em (d=1)).elim Or.inl fun h1=>(Decidable.em (d=n)).elim Or.inr fun hn=>absurd ⟨d,hd,h1,hn⟩ hc⟩
 obtain ⟨d,⟨e,hde⟩,h1,hn⟩:=h'
 have hd0:d≠0:=fun h0=>by subst h0;rw [Nat.zero_mul] at hde;omega
 have he0:e≠0:=fun h0=>by subst h0;rw [Nat.mul_zero] at hde;omega
 have he1:e≠1:=fun h0=>by subst h0;rw [Nat.mul_one] at hde;exact hn hde.symm
 rcases Nat.le_total d e with hl | hl
 ·exact ⟨d,e,hde,by omega,hl⟩
 ·exact ⟨e,d,by rw [hde,Nat.mul_comm],by omega,hl⟩

theorem ex_pri:∀ k n:Nat,n≤k→2≤n→∃ p,Pri p∧p∣n∧(p*p≤n∨Pri n)
 | 0,n,hk,h2=>by omega
 | k+1,n,hk,h2=>by
   rcases Classical.em (Pri n) with hp | hp
   ·exact ⟨n,hp,Nat.dvd_refl n,Or.inr hp⟩
   ·obtain ⟨d,e,hde,hd,hle⟩:=not_pri h2 hp
    have hdn:d<n:=by
     have:=Nat.mul_le_mul_left d (show 2≤e by omega)
     rw [← hde] at this;omega
    obtain ⟨p,hpp,hpd,_⟩:=ex_pri k d (by omega) hd
    have hpl:p≤d:=Nat.le_of_dvd (by omega) hpd
    exact ⟨p,hpp,Nat.dvd_trans hpd ⟨e,hde⟩,Or.inl (hde ▸ Nat.mul_le_mul hpl (Nat.le_trans hpl hle))⟩

/-- Whoever has no divisor up to its root is prime. -/
theorem pri_of_small {n:Nat} (h2:2≤n) (h:∀ d,2≤d→d*d≤n→n%d≠0):Pri n:=by
 rcases Classical.em (Pri n) with hp | hp
 ·exact hp
 ·obtain ⟨d,e,hde,hd,hle⟩:=not_pri h2 hp
  exact absurd (by rw [hde];exact Nat.mul_mod_right d e) (h d hd (hde ▸ Nat.mul_le_mul_left d hle))

theorem not_pri_of {n d:Nat} (h2:2≤d) (hd:d<n) (h:n%d=0):¬ Pri n:=fun hp=>by
 rcases hp.2 d (Nat.dvd_of_mod_eq_zero h) with h1 | h1 <;> omega

/-! ### lists that hold the same numbers -/
theorem perm_of_sub:∀ (l m:List Nat),l.Nodup→(∀ x∈l,x∈m)→m.length≤l.length→l.Perm m
 | [],m,_,_,hl=>by
   have:m=[]:=List.eq_nil_of_length_eq_zero (by simpa using hl)
   rw [this]
 | x::l,m,hn,hs,hl=>by
   have hx:x∈m:=hs x (List.mem_cons_self ..)
   have hn':=List.nodup_cons.mp hn
   have ih:=perm_of_sub l (m.erase x) hn'.2 (fun y hy=>(List.mem_erase_of_ne (fun h=>by subst h;exact hn'.1 hy)).mpr (hs y (List.mem_cons_of_mem _ hy)))
    (by rw [List.length_erase_of_mem hx];simp only [List.length_cons] at hl;omega)
   exact (ih.cons x).trans (List.perm_cons_erase hx).symm

def pr (l:List Nat):Nat:=l.foldr (·*·) 1
theorem pr_nil:pr []=1:=rfl
theorem pr_cons (x:Nat) (l:List Nat):pr (x::l)=x*pr l:=rfl
theorem pr_perm {l m:List Nat} (h:l.Perm m):pr l=pr m:=by
 induction h with
 | nil=>rfl
 | cons x _ ih=>simp only [pr_cons,ih]
 | swap x y l=>simp only [pr_cons];rw [← Nat.mul_assoc,← Nat.mul_assoc,Nat.mul_comm y x]
 | trans _ _ h1 h2=>exact h1.trans h2

theorem pr_map (a p:Nat) (l:List Nat):pr (l.map fun x=>a*x%p)%p=a^l.length*pr l%p:=by
 induction l with
 | nil=>simp [pr_nil]
 | cons x l ih=>
   simp only [List.map_cons,pr_cons,List.length_cons,Nat.pow_succ]
   rw [Nat.mul_mod,Nat.mod_mod,ih,← Nat.mul_mod]
   congr 1
   rw [Nat.mul_assoc,Nat.mul_left_comm x,← Nat.mul_assoc a,Nat.mul_comm a (a^l.length),Nat.mul_assoc (a^l.length)]

theorem pr_cop (p:Nat) (hp:Pri p):∀ l:List Nat,(∀ x∈l,¬ p∣x)→¬ p∣pr l
 | [],_,h=>by
   have:=Nat.le_of_dvd (by decide) h
   have:=hp.1
   rw [pr_nil] at *
   omega
 | x::l,hl,h=>by
   rw [pr_cons] at h
   rcases hp.dvd_mul h with h1 | h1
   ·exact hl x (List.mem_cons_self ..) h1
   ·exact pr_cop p hp l (fun y hy=>hl y (List.mem_cons_of_mem _ hy)) h1

theorem mod_cancel {p a x y:Nat} (hp:Pri p) (ha:¬ p∣a) (h:a*x%p=a*y%p):x%p=y%p:=by
 have key:∀ x y:Nat,x≤y→a*x%p=a*y%p→x%p=y%p:=by
  intro x y hxy h
  have h1:p∣a*(y-x):=by
   rw [Nat.mul_sub]
   exact Nat.dvd_of_mod_eq_zero (Nat.sub_mod_eq_zero_of_mod_eq h.symm)
  rcases hp.dvd_mul h1 with h2 | h2
  ·exact absurd h2 ha
  ·obtain ⟨k,hk⟩:=h2
   have:y=x+p*k:=by omega
   rw [this,Nat.add_mul_mod_self_left]
 rcases Nat.le_total x y with hl | hl
 ·exact key x y hl h
 ·exact (key y x hl h.symm).symm

/-- Fermat's sentence. -/
theorem fermat {p a:Nat} (hp:Pri p) (ha:¬ p∣a):a^(p-1)%p=1:=by
 have hp2:=hp.1
 let L:=List.range' 1 (p-1)
 have hL:∀ x∈L,1≤x∧x<p:=fun x hx=>by
  have:=List.mem_range'_1.mp hx
  omega
 have hnd:∀ x∈L,¬ p∣x:=fun x hx h=>by
  have:=Nat.le_of_dvd (by have:=(hL x hx).1;omega) h
  have:=(hL x hx).2
  omega
 have hN:L.Nodup:=List.nodup_range'
 have hM:(L.map fun x=>a*x%p).Nodup:=by
  refine List.pairwise_map.mpr (List.Pairwise.imp_of_mem ?_ hN)
  intro x y hx hy hne he
  have:=mod_cancel hp ha he
  rw [Nat.mod_eq_of_lt (hL x hx).2,Nat.mod_eq_of_lt (hL y hy).2] at this
  exact hne this
 have hperm:(L.map fun x=>a*x%p).Perm L:=by
  refine perm_of_sub _ _ hM ?_ (by simp)
  intro y hy
  obtain ⟨x,hx,rfl⟩:=List.mem_map.mp hy
  refine List.mem_range'_1.mpr ⟨?_,?_⟩
  ·rcases Nat.eq_zero_or_pos (a*x%p) with h0 | h0
   ·rcases hp.dvd_mul (Nat.dvd_of_mod_eq_zero h0) with h1 | h1
    ·exact absurd h1 ha
    ·exact absurd h1 (hnd x hx)
   ·exact h0
  ·have:=Nat.mod_lt (a*x) (show 0<p by omega)
   omega
 have h1:=pr_map a p L
 rw [pr_perm hperm] at h1
 have hlen:L.length=p-1:=List.length_range'
 rw [hlen] at h1
 have h2:pr L*1%p=pr L*a^(p-1)%p:=by rw [Nat.mul_one,h1,Nat.mul_comm]
 have h3:=mod_cancel hp (pr_cop p hp L hnd) h2
 rw [← h3,Nat.mod_eq_of_lt (by omega)]

/-! ### powers that leave 1 -/
theorem pow_one_mul {w p a:Nat} (h1:1<p) (h:w^a%p=1) (k:Nat):w^(a*k)%p=1:=by
 rw [Nat.pow_mul,Nat.pow_mod,h,Nat.one_pow,Nat.mod_eq_of_lt h1]

theorem pow_one_gcd {w p:Nat} (h1:1<p) (a b:Nat):w^a%p=1→w^b%p=1→w^Nat.gcd a b%p=1:=by
 induction a,b using Nat.gcd.induction with
 | H0 n=>intro _ h;rw [Nat.gcd_zero_left];exact h
 | H1 m n hm ih=>
   intro ha hb
   rw [Nat.gcd_rec]
   refine ih ?_ ha
   have hd:n=m*(n/m)+n%m:=(Nat.div_add_mod n m).symm
   have hb':w^(m*(n/m))*w^(n%m)%p=1:=by rw [← Nat.pow_add,← hd];exact hb
   rw [Nat.mul_mod,pow_one_mul h1 ha,Nat.one_mul,Nat.mod_mod] at hb'
   exact hb'

theorem Pri.pow_cop {q:Nat} (hq:Pri q) {k:Nat} (h:¬ q∣k) (e:Nat):Nat.Coprime (q^e) k:=
 Nat.Coprime.pow_left e (hq.cop h)

theorem pri_pow_cop {q r:Nat} (hq:Pri q) (hr:Pri r) (hne:q≠r) (e f:Nat):Nat.Coprime (q^e) (r^f):=
 Nat.Coprime.pow e f (hq.cop fun h=>by
  have:=hq.1
  rcases hr.2 q h with h1 | h1 <;> omega)

theorem prod_dvd (m:Nat):∀ L:List (Nat × Nat),(L.map Prod.fst).Nodup→(∀ x∈L,Pri x.1∧x.1^x.2∣m) →
  pr (L.map fun x=>x.1^x.2)∣m
 | [],_,_=>by simp [pr_nil]
 | x::L,hn,h=>by
   simp only [List.map_cons] at hn
   have hn':=List.nodup_cons.mp hn
   simp only [List.map_cons,pr_cons]
   refine Nat.Coprime.mul_dvd_of_dvd_of_dvd ?_ (h x (List.mem_cons_self ..)).2 (prod_dvd m L hn'.2 fun y hy=>h y (List.mem_cons_of_mem _ hy))
   have hx:=(h x (List.mem_cons_self ..)).1
   have:∀ M:List (Nat × Nat),(∀ y∈M,Pri y.1∧y.1≠x.1)→Nat.Coprime (x.1^x.2) (pr (M.map fun x=>x.1^x.2)):=by
    intro M hM
    induction M with
    | nil=>simp [pr_nil,Nat.Coprime]
    | cons y M ih=>
      simp only [List.map_cons,pr_cons]
      refine Nat.Coprime.mul_right (pri_pow_cop hx (hM y (List.mem_cons_self ..)).1 (Ne.symm (hM y (List.mem_cons_self ..)).2) _ _) (ih fun z hz=>hM z (List.mem_cons_of_mem _ hz))
   exact this L fun y hy=>⟨(h y (List.mem_cons_of_mem _ hy)).1,fun he=>hn'.1 (he ▸ List.mem_map_of_mem hy)⟩

/-- Pocklington's sentence. -/
theorem pock (N w:Nat) (L:List (Nat × Nat)) (h2:2≤N) (hn:(L.map Prod.fst).Nodup) (hF:N<pr (L.map fun x=>x.1^x.2)*pr (L.map fun x=>x.1^x.2))
  (hw:w^(N-1)%N=1)
  (h:∀ x∈L,Pri x.1∧x.1^x.2∣N-1∧x.1∣N-1∧∀ p,p∣N→w^((N-1)/x.1)%p=1→p=1):Pri N:=by
 obtain ⟨p,hp,hpN,hs | hs⟩:=ex_pri N N (Nat.le_refl N) h2
 ·exfalso
  have hp2:=hp.1
  have hwp:w^(N-1)%p=1:=by
   have:w^(N-1)%N%p=w^(N-1)%p:=Nat.mod_mod_of_dvd _ hpN
   rw [hw,Nat.mod_eq_of_lt (by omega)] at this
   exact this.symm
  have hpw:¬ p∣w:=fun hd=>by
   have:w^(N-1)%p=0:=Nat.mod_eq_zero_of_dvd (Nat.dvd_trans hd (by rw [show N-1=(N-2)+1 by omega,Nat.pow_succ];exact Nat.dvd_mul_left _ _))
   omega
  have hf:=fermat hp hpw
  have hg:=pow_one_gcd (show 1<p by omega) (N-1) (p-1) hwp hf
  have hd:pr (L.map fun x=>x.1^x.2)∣p-1:=by
   refine prod_dvd (p-1) L hn fun x hx=>⟨(h x hx).1,?_⟩
   obtain ⟨hq,he,hq1,hno⟩:=h x hx
   obtain ⟨k,hk⟩:=Nat.gcd_dvd_left (N-1) (p-1)
   have hqk:¬ x.1∣k:=by
    rintro ⟨j,hj⟩
    have hdiv:(N-1)/x.1=Nat.gcd (N-1) (p-1)*j:=by
     refine Nat.div_eq_of_eq_mul_left (by have:=hq.1;omega) ?_
     rw [Nat.mul_assoc,Nat.mul_comm j,← hj]
     exact hk
    have:=hno p hpN (by rw [hdiv];exact pow_one_mul (by omega) hg j)
    omega
   have:x.1^x.2∣Nat.gcd (N-1) (p-1)*k:=by rw [← hk];exact he
   exact Nat.dvd_trans (Nat.Coprime.dvd_of_dvd_mul_right (hq.pow_cop hqk _) this) (Nat.gcd_dvd_right _ _)
  have hle:=Nat.le_of_dvd (by omega) hd
  have:=Nat.mul_le_mul (Nat.le_trans hle (Nat.sub_le p 1)) (Nat.le_trans hle (Nat.sub_le p 1))
  omega
 ·exact hs

/-! ### Wilson's sentence -/
def fac:Nat→Nat
 | 0=>1
 | n+1=>fac n*(n+1)

end Go.Proofs.YtlphnfajhpkleaaDoor.Pr

/-
 Reasons: when one holds,and that its number is prime then. Nothing here speaks of the program.
-/
namespace Go.Proofs.YtlphnfajhpkleaaDoor.Pr
set_option linter.unusedSimpArgs false
set_option linter.unusedVariables false

/-! ### the greatest power that divides a number -/
/-- How often a number goes into another one,at most so often. -/
def vp (q:Nat):Nat→Nat→Nat
 | 0,_=>0
 | k+1,m=>if m%q=0 then vp q k (m/q)+1 else 0

def ex (q m:Nat):Nat:=vp q m m
def gp (q m:Nat):Nat:=q^ex q m

theorem vp_dvd (q:Nat):∀ k m,q^vp q k m∣m
 | 0,m=>by simp [vp]
 | k+1,m=>by
   unfold vp
   split
   ·rename_i h
    rw [Nat.pow_succ]
    have:=vp_dvd q k (m/q)
    obtain ⟨c,hc⟩:=this
    refine ⟨c,?_⟩
    have hm:q*(m/q)=m:=Nat.mul_div_cancel' (Nat.dvd_of_mod_eq_zero h)
    calc m=q*(m/q):=hm.symm
     _=q*(q^vp q k (m/q)*c):=by rw [← hc]
     _=q^vp q k (m/q)*q*c:=by rw [← Nat.mul_assoc,Nat.mul_comm q]
   ·simp

theorem gp_dvd (q m:Nat):gp q m∣m:=vp_dvd q m m
/-! ### reasons -/
inductive Rsn where
 | mk (n w:Nat) (ps:List Rsn)

def Rsn.n:Rsn→Nat | .mk n _ _=>n
def Rsn.w:Rsn→Nat | .mk _ w _=>w
def Rsn.ps:Rsn→List Rsn | .mk _ _ ps=>ps

mutual
/-- Reasons in a reason,all together,with itself. -/
def Rsn.cnt:Rsn→Nat
 | .mk _ _ ps=>cnts ps+1
def cnts:List Rsn→Nat
 | []=>0
 | r::rs=>r.cnt+cnts rs
end

open Classical in
noncomputable def priB (n:Nat):Bool:=decide (Pri n)
theorem priB_iff {n:Nat}:priB n=true ↔ Pri n:=by simp [priB]
theorem priB_not {n:Nat}:priB n=false ↔ ¬ Pri n:=by simp [priB]

/-- The numbers rise. -/
def rises:List Nat→Bool
 | []=>true
 | [_]=>true
 | a::b::l=>decide (a<b) && rises (b::l)

/-- The product of the greatest powers. -/
def fprod (m:Nat) (qs:List Nat):Nat:=pr (qs.map fun q=>gp q m)

/-- What is asked of a great number,its witness and its parts' numbers,but for the parts themselves. -/
def great (n w:Nat) (qs:List Nat):Bool:=
 rises qs && (qs.all fun q=>(n-1)%q==0) && decide (n<fprod (n-1) qs*fprod (n-1) qs) && decide (1<w) && decide (w<n) && decide (w^(n-1)%n=1)
  && qs.all fun q=>decide (Nat.gcd ((w^((n-1)/q)%n+n-1)%n) n=1)

mutual
/-- When a reason holds,but for how many are in it. -/
noncomputable def Rsn.ok:Rsn→Bool
 | .mk n w ps=>if n<4294967296 then priB n && (decide (w=0) && ps.isEmpty) else oks ps && great n w (ps.map Rsn.n)
noncomputable def oks:List Rsn→Bool
 | []=>true
 | r::rs=>r.ok && oks rs
end

/-- When a reason holds. -/
noncomputable def Rsn.holds (r:Rsn):Bool:=decide (r.cnt≤32) && r.ok

theorem rises_lt:∀ {l:List Nat} {a:Nat},rises (a::l)=true→∀ b∈l,a<b
 | x::l,a,h,b,hb=>by
   simp only [rises,Bool.and_eq_true,decide_eq_true_eq] at h
   rcases List.mem_cons.mp hb with h1 | h1
   ·subst h1;exact h.1
   ·exact Nat.lt_trans h.1 (rises_lt h.2 b h1)
theorem rises_tail {a:Nat} {l:List Nat} (h:rises (a::l)=true):rises l=true:=by
 cases l with
 | nil=>rfl
 | cons b l=>simp only [rises,Bool.and_eq_true] at h;exact h.2
theorem rises_nodup:∀ {l:List Nat},rises l=true→l.Nodup
 | [],_=>List.nodup_nil
 | a::l,h=>List.nodup_cons.mpr ⟨fun hm=>Nat.lt_irrefl a (rises_lt h a hm),rises_nodup (rises_tail h)⟩

theorem fprod_eq (m:Nat) (qs:List Nat):fprod m qs=pr ((qs.map fun q=>(q,ex q m)).map fun x=>x.1^x.2):=by
 unfold fprod
 rw [List.map_map]
 rfl

theorem gcd_no {n y p:Nat} (hn:1<n) (hp:p∣n) (hy:y%p=1) (hg:Nat.gcd ((y%n+n-1)%n) n=1):p=1:=by
 have hp0:p≠0:=fun h=>by subst h;rw [Nat.zero_dvd] at hp;omega
 rcases Nat.eq_or_lt_of_le (show 1≤p by omega) with h1 | h1
 ·exact h1.symm
 ·have h2:p∣(y%n+n-1)%n:=by
   refine (Nat.dvd_mod_iff hp).mpr ?_
   have h3:y%n%p=1:=by rw [Nat.mod_mod_of_dvd _ hp];exact hy
   have h4:y%n=p*(y%n/p)+1:=by
    have:=Nat.div_add_mod (y%n) p
    rw [h3] at this
    exact this.symm
   have h5:y%n+n-1=p*(y%n/p)+n:=by omega
   rw [h5]
   exact Nat.dvd_add (Nat.dvd_mul_right _ _) hp
  have:=Nat.dvd_gcd h2 hp
  rw [hg] at this
  exact Nat.dvd_one.mp this

theorem great_pri {n w:Nat} {qs:List Nat} (hn:1<n) (hp:∀ q∈qs,Pri q) (h:great n w qs=true):Pri n:=by
 simp only [great,Bool.and_eq_true,decide_eq_true_eq,List.all_eq_true,beq_iff_eq] at h
 obtain ⟨⟨⟨⟨⟨⟨hr,hd⟩,hF⟩,hw1⟩,hwn⟩,hw⟩,hg⟩:=h
 rw [fprod_eq] at hF
 refine pock n w _ hn ?_ hF hw ?_
 ·rw [List.map_map]
  have:(Prod.fst ∘ fun q=>(q,ex q (n-1)))=id:=rfl
  rw [this,List.map_id]
  exact rises_nodup hr
 ·intro x hx
  obtain ⟨q,hq,rfl⟩:=List.mem_map.mp hx
  exact ⟨hp q hq,gp_dvd q _,Nat.dvd_of_mod_eq_zero (hd q hq),fun p hpn hpw=>gcd_no hn hpn hpw (hg q hq)⟩

mutual
theorem ok_pri:∀ r:Rsn,r.ok=true→Pri r.n
 | .mk n w ps,h=>by
   unfold Rsn.ok at h
   split at h
   ·simp only [Bool.and_eq_true] at h
    exact priB_iff.mp h.1
   ·simp only [Bool.and_eq_true] at h
    refine great_pri (show 1<n by omega) ?_ h.2
    intro q hq
    obtain ⟨r,hr,rfl⟩:=List.mem_map.mp hq
    exact oks_pri ps h.1 r hr
theorem oks_pri:∀ l:List Rsn,oks l=true→∀ r∈l,Pri r.n
 | [],_,r,hr=>by simp at hr
 | x::l,h,r,hr=>by
   simp only [oks,Bool.and_eq_true] at h
   rcases List.mem_cons.mp hr with h1 | h1
   ·have:=ok_pri x h.1
    rw [h1]
    exact this
   ·exact oks_pri l h.2 r h1
end

/-! ### what follows -/
end Go.Proofs.YtlphnfajhpkleaaDoor.Pr
