import Derived.WalkKit
namespace Go.Proofs.YtmmgmljkmmgjdaaGreatDoor
set_option maxRecDepth 100000
set_option linter.unusedSimpArgs false
set_option linter.unusedVariables false

theorem Jhj {X k:Nat} (hk:1<k) (h:(k:Int)∣(X:Int)-1):X%k=1:=by
 obtain ⟨v,hv⟩:=h
 have h3:(X:Int)%(k:Int)=1%(k:Int):=by
  rw [show (X:Int)=1+k*v by omega,Int.add_mul_emod_self_left]
 have h4:((X%k:Nat):Int)=((1%k:Nat):Int):=by rw [Int.natCast_emod,Int.natCast_emod];exact h3
 have h5:X%k=1%k:=by omega
 rw [h5,Nat.mod_eq_of_lt hk]
theorem Jic (X M:Nat):∃ q:Nat,X=M*q+X%M:=⟨X/M,(Nat.div_add_mod X M).symm⟩
theorem cst {a b:Nat} (h:a=b):(a:Int)=b:=by rw [h]
theorem inv_one (M X T R:Nat) (hX:X<R) (hT:T<R) (h:M*X%R=1) (k:M*T%R=1):X=T:=by
 have a:M*X*T%R=T:=by rw [Nat.mul_mod,h,Nat.one_mul,Nat.mod_mod,Nat.mod_eq_of_lt hT]
 have b:M*T*X%R=X:=by rw [Nat.mul_mod,k,Nat.one_mul,Nat.mod_mod,Nat.mod_eq_of_lt hX]
 rw [show M*X*T=M*T*X by rw [Nat.mul_assoc,Nat.mul_comm X,← Nat.mul_assoc]] at a
 exact b.symm.trans a
theorem bez (a b:Nat):∃ x y:Int,(a:Int)*x+(b:Int)*y=(Nat.gcd a b:Nat):=by
 induction a,b using Nat.gcd.induction with
 | H0 n=>exact ⟨0,1,by simp⟩
 | H1 m n hm ih=>
  obtain ⟨x,y,h⟩:=ih
  refine ⟨y-(n/m:Nat)*x,x,?_⟩
  rw [Nat.gcd_rec m n,← h]
  have e:=congrArg (Nat.cast (R:=Int)) (Nat.div_add_mod n m)
  simp only [Int.natCast_add,Int.natCast_mul] at e
  generalize ((n/m:Nat):Int)=q at *
  generalize ((n%m:Nat):Int)=r at *
  obtain rfl:r=n-m*q:=by omega
  grind
theorem Jfj (A M:Nat) (h1:1<M) (h:Nat.gcd A M=1):∃ V,V<M∧A*V%M=1:=by
 obtain ⟨x,y,e⟩:=bez A M
 rw [h] at e
 have hM:(M:Int)≠0:=by omega
 obtain ⟨V,hV⟩:∃ V:Nat,(V:Int)=x%M:=⟨(x%M).toNat,by rw [Int.toNat_of_nonneg (Int.emod_nonneg _ hM)]⟩
 refine ⟨V,?_,?_⟩
 ·have:=Int.emod_lt_of_pos x (show (0:Int)<M by omega);omega
 ·refine Jhj h1 ?_
  have e2:=Int.mul_ediv_add_emod x M
  generalize x/(M:Int)=q at e2
  refine ⟨-(A*q)-y,?_⟩
  rw [Int.natCast_mul,hV]
  obtain hx:x%(M:Int)=x-M*q:=by omega
  rw [hx]
  have e3:(A:Int)*x=1-M*y:=by omega
  have:(A:Int)*(x-M*q)-1=(A:Int)*x-A*(M*q)-1:=by rw [Int.mul_sub]
  rw [this,e3];clear hx hV e e2 e3 this;grind
theorem inv_gcd (A M V:Nat) (h1:1<M) (h:A*V%M=1):Nat.gcd A M=1:=by
 have a:Nat.gcd A M∣A*V:=Nat.dvd_trans (Nat.gcd_dvd_left A M) (Nat.dvd_mul_right A V)
 have b:Nat.gcd A M∣M*(A*V/M):=Nat.dvd_trans (Nat.gcd_dvd_right A M) (Nat.dvd_mul_right M _)
 have e:=Nat.div_add_mod (A*V) M
 rw [h] at e
 rw [← e] at a
 exact Nat.dvd_one.1 ((Nat.dvd_add_right b).1 a)
theorem eu_round (A M L U R V Q r P D c:Int) (h1:M∣A*U-L) (h2:M∣A*V-R) (e:L=Q*R+r) (hp:M∣Q*V-P) (hd:U+M*c=D+P):M∣A*D-r:=by
 obtain ⟨u,hu⟩:=h1
 obtain ⟨v,hv⟩:=h2
 obtain ⟨p,hp⟩:=hp
 refine ⟨u-Q*v+A*p+A*c,?_⟩
 obtain rfl:D=U+M*c-P:=by omega
 obtain rfl:P=Q*V-M*p:=by omega
 obtain rfl:r=L-Q*R:=by omega
 obtain rfl:L=A*U-M*u:=by omega
 obtain rfl:R=A*V-M*v:=by omega
 clear hu hv hp e hd
 grind
end Go.Proofs.YtmmgmljkmmgjdaaGreatDoor
