/-
 Numbers by an odd one,where what 2^256 times a number leaves stands for it;what makes an odd number's inverse by 2^256 right in twice as many bits. Nothing here speaks of the program.
-/
import Derived.WalkKit
namespace Go.Proofs.YtlphnfajhpkleaaDoor
set_option linter.unusedSimpArgs false
set_option linter.unusedVariables false

theorem newt_step (M x p S x' l c h:Int) (R:Int) (d:Int) (e1:M*x=p+R*l) (e2:2+R*c=S+p) (e3:x*S=x'+R*h) (hR:d∣R) (hd:d∣(M*x-1)*(M*x-1)):d∣M*x'-1:=by
 obtain ⟨u,rfl⟩:=hR
 obtain ⟨v,hv⟩:=hd
 refine ⟨u*(M*x*(l+c)-M*h)-v,?_⟩
 obtain rfl:p=M*x-d*u*l:=by omega
 obtain rfl:S=2+d*u*c-(M*x-d*u*l):=by omega
 obtain rfl:x'=x*(2+d*u*c-(M*x-d*u*l))-d*u*h:=by omega
 rw [Int.mul_sub d,← hv]
 clear hv e1 e2 e3
 grind
theorem mod_dvd {X k:Nat} (hk:1<k) (h:X%k=1):(k:Int)∣(X:Int)-1:=by
 refine ⟨((X/k:Nat):Int),?_⟩
 have:=Nat.div_add_mod X k
 rw [h] at this
 have e:((k*(X/k)+1:Nat):Int)=(X:Int):=by rw [this]
 rw [Int.natCast_add,Int.natCast_mul] at e
 omega
theorem dvd_mod {X k:Nat} (hk:1<k) (h:(k:Int)∣(X:Int)-1):X%k=1:=by
 obtain ⟨v,hv⟩:=h
 have h3:(X:Int)%(k:Int)=1%(k:Int):=by
  rw [show (X:Int)=1+k*v by omega,Int.add_mul_emod_self_left]
 have h4:((X%k:Nat):Int)=((1%k:Nat):Int):=by rw [Int.natCast_emod,Int.natCast_emod];exact h3
 have h5:X%k=1%k:=by omega
 rw [h5,Nat.mod_eq_of_lt hk]
theorem newt_nat (M x p S x' l c h r r':Nat) (hr:0<r') (h1:r'≤2*r) (h2:r'≤256) (h0:M*x%2^r=1) (e1:M*x=p+2^256*l) (e2:2+2^256*c=S+p) (e3:x*S=x'+2^256*h):M*x'%2^r'=1:=by
 have hr0:0<r:=by omega
 have k1:1<2^r':=Nat.one_lt_two_pow (by omega)
 have k2:1<2^r:=Nat.one_lt_two_pow (by omega)
 have d0:=mod_dvd k2 h0
 refine dvd_mod k1 ?_
 have hR:((2^r':Nat):Int)∣((2^256:Nat):Int):=Int.natCast_dvd_natCast.2 (Nat.pow_dvd_pow 2 h2)
 have hd:((2^r':Nat):Int)∣(((M*x:Nat):Int)-1)*(((M*x:Nat):Int)-1):=by
  have:((2^r':Nat):Int)∣((2^r*2^r:Nat):Int):=Int.natCast_dvd_natCast.2 (by rw [← Nat.pow_add];exact Nat.pow_dvd_pow 2 (by omega))
  refine Int.dvd_trans this ?_
  rw [Int.natCast_mul]
  exact Int.mul_dvd_mul d0 d0
 generalize 2^256=R at *
 generalize 2^r'=d at *
 rw [Int.natCast_mul] at hd ⊢
 refine newt_step (M:Int) x p S x' l c h R d ?_ ?_ ?_ hR hd
 ·have:=congrArg (Nat.cast (R:=Int)) e1;simpa using this
 ·have:=congrArg (Nat.cast (R:=Int)) e2;simpa using this
 ·have:=congrArg (Nat.cast (R:=Int)) e3;simpa using this
/-- an odd number's square leaves 1 by 8 -/
theorem newt_first (M:Nat) (h:M%2=1):M*M%2^3=1:=by
 rw [Nat.mul_mod]
 have:M%2^3=1∨M%2^3=3∨M%2^3=5∨M%2^3=7:=by omega
 rcases this with e | e | e | e <;> rw [e]
/-- taking M away so often that the low words become 0 -/
theorem red_nat (M T low high often h1 off l2:Nat) (hT:M*T%2^256=1) (hM:0<M) (hl:low<2^256) (e1:low*T=often+2^256*h1) (ho:often<2^256) (e2:often*M=l2+2^256*off) (hl2:l2<2^256) :
  off<M∧often*M=low+2^256*off:=by
 have hoff:off<M:=by
  apply Decidable.byContradiction;intro hc
  have a1:2^256*M≤2^256*off:=Nat.mul_le_mul_left _ (by omega)
  have a2:often*M<2^256*M:=(Nat.mul_lt_mul_right hM).2 ho
  omega
 have hl:l2=low:=by
  have a1:often*M%2^256=l2:=by rw [e2,Nat.add_mul_mod_self_left,Nat.mod_eq_of_lt hl2]
  have a2:low*T*M%2^256=l2:=by rw [e1,Nat.add_mul,Nat.mul_assoc,Nat.add_mul_mod_self_left,a1]
  rw [Nat.mul_assoc,Nat.mul_comm T M,Nat.mul_mod,hT,Nat.mul_one,Nat.mod_mod,Nat.mod_eq_of_lt hl] at a2
  exact a2.symm
 subst hl
 exact ⟨hoff,e2⟩
/-- what 2^256 times a number leaves stands for it: of R there is an inverse -/
theorem can_R (M T R k a:Int) (h:M*T=1+R*k) (hd:M∣a*R):M∣a:=by
 obtain ⟨v,hv⟩:=hd
 refine ⟨a*T-v*k,?_⟩
 have:M*(v*k)=a*R*k:=by rw [hv,Int.mul_assoc]
 rw [Int.mul_sub,this]
 have e:M*(a*T)=a*(M*T):=by grind
 rw [e,h];grind
theorem eq_of_dvd (M a b:Nat) (ha:a<M) (hb:b<M) (h:(M:Int)∣(a:Int)-b):a=b:=by
 obtain ⟨v,hv⟩:=h
 have hM:(0:Int)<M:=by omega
 have:v<1:=by
  apply Decidable.byContradiction;intro hc
  have:(M:Int)*1≤M*v:=Int.mul_le_mul_of_nonneg_left (by omega) (by omega)
  omega
 have:-1<v:=by
  apply Decidable.byContradiction;intro hc
  have:(M:Int)*v≤M*(-1):=Int.mul_le_mul_of_nonneg_left (by omega) (by omega)
  omega
 have:v=0:=by omega
 subst this;omega
theorem mod_ex (X M:Nat):∃ q:Nat,X=M*q+X%M:=⟨X/M,(Nat.div_add_mod X M).symm⟩
theorem cst {a b:Nat} (h:a=b):(a:Int)=b:=by rw [h]
/-- one product of what stands for numbers -/
theorem mont_mul (M T R x y low high often off rest c:Nat) (hT:M*T%R=1) (hr:rest<M) (hM:0<M) (e0:(x*R%M)*(y*R%M)=low+R*high) (e2:often*M=low+R*off) (e3:high+M*c=rest+off):rest=x*y%M*R%M:=by
 refine eq_of_dvd M _ _ hr (Nat.mod_lt _ hM) (can_R M T R (((M*T/R:Nat)):Int) _ ?_ ?_)
 ·have:=cst (Nat.div_add_mod (M*T) R);rw [hT] at this;simp only [Int.natCast_add,Int.natCast_mul] at this ⊢;omega
 ·obtain ⟨q1,h1⟩:=mod_ex (x*R) M
  obtain ⟨q2,h2⟩:=mod_ex (y*R) M
  obtain ⟨q3,h3⟩:=mod_ex (x*y) M
  obtain ⟨q4,h4⟩:=mod_ex (x*y%M*R) M
  generalize x*R%M=f at *
  generalize y*R%M=g at *
  generalize x*y%M=p at *
  generalize p*R%M=s at *
  have h1:=cst h1;have h2:=cst h2;have h3:=cst h3;have h4:=cst h4;have e0:=cst e0;have e2:=cst e2;have e3:=cst e3
  simp only [Int.natCast_add,Int.natCast_mul] at h1 h2 h3 h4 e0 e2 e3
  clear hT hr hM
  generalize (M:Int)=M' at *
  generalize (R:Int)=R' at *
  generalize (x:Int)=x' at *
  generalize (y:Int)=y' at *
  generalize (often:Int)=o' at *
  generalize (rest:Int)=r' at *
  generalize (low:Int)=l' at *
  generalize (high:Int)=hi' at *
  generalize (off:Int)=of' at *
  generalize (c:Int)=c' at *
  generalize (f:Int)=f' at *
  generalize (g:Int)=g' at *
  generalize (p:Int)=p' at *
  generalize (s:Int)=s' at *
  generalize (q1:Int)=q1' at *
  generalize (q2:Int)=q2' at *
  generalize (q3:Int)=q3' at *
  generalize (q4:Int)=q4' at *
  -- r' R=(hi-of+M c) R=f g-o M+M c R ;s R=(p R-M q4) R ;p=x y-M q3
  obtain rfl:r'=hi'+M'*c'-of':=by omega
  obtain rfl:s'=p'*R'-M'*q4':=by omega
  obtain rfl:p'=x'*y'-M'*q3':=by omega
  obtain rfl:f'=x'*R'-M'*q1':=by omega
  obtain rfl:g'=y'*R'-M'*q2':=by omega
  obtain rfl:l'=o'*M'-R'*of':=by omega
  clear h1 h2 h3 h4 e3 e2
  refine ⟨c'*R'-o'+q3'*R'*R'+q4'*R'-x'*R'*q2'-q1'*y'*R'+M'*q1'*q2',?_⟩
  have k:(hi'+M'*c'-of'-((x'*y'-M'*q3')*R'-M'*q4'))*R'-M'*(c'*R'-o'+q3'*R'*R'+q4'*R'-x'*R'*q2'-q1'*y'*R'+M'*q1'*q2')=(o'*M'-R'*of'+R'*hi')-(x'*R'-M'*q1')*(y'*R'-M'*q2'):=by clear e0;grind
  omega
/-- and back -/
theorem mont_back (M T R x often off rest c:Nat) (hT:M*T%R=1) (hr:rest<M) (hx:x<M) (e2:often*M=x*R%M+R*off) (e3:0+M*c=rest+off):rest=x:=by
 refine eq_of_dvd M _ _ hr hx (can_R M T R (((M*T/R:Nat)):Int) _ ?_ ?_)
 ·have:=cst (Nat.div_add_mod (M*T) R);rw [hT] at this;simp only [Int.natCast_add,Int.natCast_mul] at this ⊢;omega
 ·obtain ⟨q1,h1⟩:=mod_ex (x*R) M
  generalize x*R%M=f at *
  have h1:=cst h1;have e2:=cst e2;have e3:=cst e3
  simp only [Int.natCast_add,Int.natCast_mul] at h1 e2 e3
  clear hT hr hx
  generalize (M:Int)=M' at *
  generalize (R:Int)=R' at *
  generalize (x:Int)=x' at *
  generalize (often:Int)=o' at *
  generalize (rest:Int)=r' at *
  generalize (off:Int)=of' at *
  generalize (c:Int)=c' at *
  generalize (f:Int)=f' at *
  generalize (q1:Int)=q1' at *
  obtain rfl:r'=M'*c'-of':=by omega
  obtain rfl:f'=x'*R'-M'*q1':=by omega
  refine ⟨c'*R'-o'-q1',?_⟩
  grind
end Go.Proofs.YtlphnfajhpkleaaDoor

/-
 An odd number's inverse by 2^256: there is one,and just one. Nothing here speaks of the program.
-/
namespace Go.Proofs.YtlphnfajhpkleaaDoor
set_option linter.unusedSimpArgs false
set_option linter.unusedVariables false

theorem newt_more (M r r':Nat) (hr:0<r') (h1:r'≤2*r) (h2:r'≤256) (h:∃ X,X<2^256∧M*X%2^r=1):∃ X,X<2^256∧M*X%2^r'=1:=by
 obtain ⟨X,hX,h⟩:=h
 obtain ⟨S,c,e⟩:∃ S c,2+2^256*c=S+M*X%2^256:=by
  have:M*X%2^256<2^256:=Nat.mod_lt _ (by decide)
  exact ⟨2+2^256-M*X%2^256,1,by omega⟩
 exact ⟨X*S%2^256,Nat.mod_lt _ (by decide),newt_nat M X (M*X%2^256) S (X*S%2^256) (M*X/2^256) c (X*S/2^256) r r' hr h1 h2 h (by omega) e (by omega)⟩
theorem inv_exists (M:Nat) (hM:M<2^256) (h:M%2=1):∃ X,X<2^256∧M*X%2^256=1:=
 newt_more M 192 256 (by decide) (by decide) (by decide) <| newt_more M 96 192 (by decide) (by decide) (by decide) <| newt_more M 48 96 (by decide) (by decide) (by decide) <|
 newt_more M 24 48 (by decide) (by decide) (by decide) <| newt_more M 12 24 (by decide) (by decide) (by decide) <| newt_more M 6 12 (by decide) (by decide) (by decide) <| newt_more M 3 6 (by decide) (by decide) (by decide)
  ⟨M,hM,newt_first M h⟩
theorem inv_one (M X T R:Nat) (hX:X<R) (hT:T<R) (h:M*X%R=1) (k:M*T%R=1):X=T:=by
 have a:M*X*T%R=T:=by rw [Nat.mul_mod,h,Nat.one_mul,Nat.mod_mod,Nat.mod_eq_of_lt hT]
 have b:M*T*X%R=X:=by rw [Nat.mul_mod,k,Nat.one_mul,Nat.mod_mod,Nat.mod_eq_of_lt hX]
 rw [show M*X*T=M*T*X by rw [Nat.mul_assoc,Nat.mul_comm X,← Nat.mul_assoc]] at a
 exact b.symm.trans a
/-- one round -/
theorem newt_round (M X p S X2 l c h r:Nat) (h3:3≤r) (h0:M*X%2^(min r 256)=1) (hr:r<256) (e1:M*X=p+2^256*l) (e2:2+2^256*c=S+p) (e3:X*S=X2+2^256*h):M*X2%2^(min (r*2) 256)=1:=
 newt_nat M X p S X2 l c h (min r 256) (min (r*2) 256) (by omega) (by omega) (by omega) h0 e1 e2 e3
end Go.Proofs.YtlphnfajhpkleaaDoor

/-
 What two numbers have in common is made of them;one round of the search. Nothing here speaks of the program.
-/
namespace Go.Proofs.YtlphnfajhpkleaaDoor
set_option linter.unusedSimpArgs false
set_option linter.unusedVariables false

theorem bez (a b:Nat):∃ x y:Int,(a:Int)*x+(b:Int)*y=(Nat.gcd a b:Nat):=by
 induction a,b using Nat.gcd.induction with
 | H0 n=>exact ⟨0,1,by simp⟩
 | H1 m n hm ih=>
  obtain ⟨x,y,h⟩:=ih
  refine ⟨y-(n/m:Nat)*x,x,?_⟩
  rw [Nat.gcd_rec m n,← h]
  have e:=congrArg (Nat.cast (R:=Int)) (Nat.div_add_mod n m)
  simp only [Int.natCast_add,Int.natCast_mul] at e
  generalize ((n/m:Nat):Int)=q at *
  generalize ((n%m:Nat):Int)=r at *
  obtain rfl:r=n-m*q:=by omega
  grind
theorem inv_there (A M:Nat) (h1:1<M) (h:Nat.gcd A M=1):∃ V,V<M∧A*V%M=1:=by
 obtain ⟨x,y,e⟩:=bez A M
 rw [h] at e
 have hM:(M:Int)≠0:=by omega
 obtain ⟨V,hV⟩:∃ V:Nat,(V:Int)=x%M:=⟨(x%M).toNat,by rw [Int.toNat_of_nonneg (Int.emod_nonneg _ hM)]⟩
 refine ⟨V,?_,?_⟩
 ·have:=Int.emod_lt_of_pos x (show (0:Int)<M by omega);omega
 ·refine dvd_mod h1 ?_
  have e2:=Int.mul_ediv_add_emod x M
  generalize x/(M:Int)=q at e2
  refine ⟨-(A*q)-y,?_⟩
  rw [Int.natCast_mul,hV]
  obtain hx:x%(M:Int)=x-M*q:=by omega
  rw [hx]
  have e3:(A:Int)*x=1-M*y:=by omega
  have:(A:Int)*(x-M*q)-1=(A:Int)*x-A*(M*q)-1:=by rw [Int.mul_sub]
  rw [this,e3];clear hx hV e e2 e3 this;grind
theorem inv_gcd (A M V:Nat) (h1:1<M) (h:A*V%M=1):Nat.gcd A M=1:=by
 have a:Nat.gcd A M∣A*V:=Nat.dvd_trans (Nat.gcd_dvd_left A M) (Nat.dvd_mul_right A V)
 have b:Nat.gcd A M∣M*(A*V/M):=Nat.dvd_trans (Nat.gcd_dvd_right A M) (Nat.dvd_mul_right M _)
 have e:=Nat.div_add_mod (A*V) M
 rw [h] at e
 rw [← e] at a
 exact Nat.dvd_one.1 ((Nat.dvd_add_right b).1 a)
/-- one round of Euclid's search -/
theorem eu_round (A M L U R V Q r P D c:Int) (h1:M∣A*U-L) (h2:M∣A*V-R) (e:L=Q*R+r) (hp:M∣Q*V-P) (hd:U+M*c=D+P):M∣A*D-r:=by
 obtain ⟨u,hu⟩:=h1
 obtain ⟨v,hv⟩:=h2
 obtain ⟨p,hp⟩:=hp
 refine ⟨u-Q*v+A*p+A*c,?_⟩
 obtain rfl:D=U+M*c-P:=by omega
 obtain rfl:P=Q*V-M*p:=by omega
 obtain rfl:r=L-Q*R:=by omega
 obtain rfl:L=A*U-M*u:=by omega
 obtain rfl:R=A*V-M*v:=by omega
 clear hu hv hp e hd
 grind
end Go.Proofs.YtlphnfajhpkleaaDoor
