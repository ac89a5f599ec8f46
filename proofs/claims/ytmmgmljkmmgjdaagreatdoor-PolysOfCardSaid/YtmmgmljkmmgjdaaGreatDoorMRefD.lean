import Derived.Test.YtmmgmljkmmgjdaaGreatDoorMMod7
import Derived.Test.YtmmgmljkmmgjdaaGreatDoorMRbits
import Derived.Test.YtmmgmljkmmgjdaaGreatDoorMRefA
import Derived.Test.YtmmgmljkmmgjdaaGreatDoorMTree
namespace Go.Proofs.YtmmgmljkmmgjdaaGreatDoor
set_option maxRecDepth 100000
open Go.RowKit
set_option linter.unusedSimpArgs false
set_option linter.unusedVariables false
attribute [local go_sem ↓] Go.wp_at_zero Go.wp_at_succ

theorem may_no (A B M:Nat) (hA:A<2^256) (hB:B<2^256) (hM:M<2^256) (h:¬ (1<M∧A<M∧B<M)):∀ w,Calls Tryz.prog 185 #[num A,num B,num M] w fun e w'=>e=.returned (.bool false)∧Below w.heap.size w w':=by
 have MY:=Jdi A B M hA hB hM
 rw [show decide (1<M∧A<M∧B<M)=false from decide_eq_false h] at MY
 exact MY
theorem ra_no (A B M:Nat) (hA:A<2^256) (hB:B<2^256) (hM:M<2^256) (h:¬ (1<M∧A<M∧B<M)):∀ w,Calls Tryz.prog 193 #[num A,num B,num M] w fun e w'=>e=.returned (.tuple #[num (0),.int .i64 1])∧Below w.heap.size w w':=fun w=>radd4_no A B M (may_no A B M hA hB hM h) w
theorem rs_yes (A B M:Nat) (hM:M<2^256) (h1:1<M) (hA:A<M) (hB:B<M):∀ w,Calls Tryz.prog 195 #[num A,num B,num M] w fun e w'=>e=.returned (.tuple #[num ((A+M-B)%M),.int .i64 0])∧Below w.heap.size w w':=by
 have MY:=Jdi A B M (by omega) (by omega) hM
 rw [show decide (1<M∧A<M∧B<M)=true from decide_eq_true ⟨h1,hA,hB⟩] at MY
 obtain ⟨S,c,hS,hc,he,_⟩:=Jbt A B (by omega) (by omega)
 have C:=Jan A B S c (by omega) (by omega) hS hc he
 have h01:c=0∨c=1:=by omega
 rcases h01 with rfl | rfl
 ·rw [show (A+M-B)%M=S by rw [show A+M-B=S+M by omega,Nat.add_mod_right,Nat.mod_eq_of_lt (by omega)]]
  exact fun w=>rsub4_a A B M S MY C w
 ·obtain ⟨L,d,hL,hd,he2,_⟩:=Jfo S M hS hM
  have C2:=Jdw S M L d hS hM hL hd he2
  rw [show (A+M-B)%M=L by rw [Nat.mod_eq_of_lt (by omega)];omega]
  exact fun w=>rsub4_b A B M S L d MY C C2 w
theorem ra_yes (A B M:Nat) (hM:M<2^256) (h1:1<M) (hA:A<M) (hB:B<M):∀ w,Calls Tryz.prog 193 #[num A,num B,num M] w fun e w'=>e=.returned (.tuple #[num ((A+B)%M),.int .i64 0])∧Below w.heap.size w w':=by
 have MY:=Jdi A B M (by omega) (by omega) hM
 rw [show decide (1<M∧A<M∧B<M)=true from decide_eq_true ⟨h1,hA,hB⟩] at MY
 obtain ⟨S,c,hS,hc,he,_⟩:=Jfo A B (by omega) (by omega)
 have C:=Jdw A B S c (by omega) (by omega) hS hc he
 obtain ⟨L,d,hL,hd,he2,_⟩:=Jbt S M hS hM
 have C2:=Jan S M L d hS hM hL hd he2
 have h01:c=0∨c=1:=by omega
 rcases h01 with rfl | rfl
 ·have KC:=Xh S M hS hM
  by_cases hlt:S<M
  ·rw [show (A+B)%M=S by rw [show A+B=S by omega,Nat.mod_eq_of_lt hlt]]
   exact fun w=>radd4_lt A B M S _ (Uv hlt) MY C KC w
  ·rw [show (A+B)%M=L by rw [show A+B=L+M by omega,Nat.add_mod_right,Nat.mod_eq_of_lt (by omega)]]
   exact fun w=>radd4_ge A B M S L d _ (Jfm (by omega)) MY C KC C2 w
 ·rw [show (A+B)%M=L by rw [show A+B=L+M by omega,Nat.add_mod_right,Nat.mod_eq_of_lt (by omega)]]
  exact fun w=>radd4_over A B M S L d MY C C2 w
theorem Jhu (X:Nat) (h:X<18446744073709551616):wd X 0=X:=by unfold wd;rw [Nat.pow_zero,Nat.div_one,Nat.mod_eq_of_lt h]
theorem mul64_any (a b:Nat) (ha:a<18446744073709551616) (hb:b<18446744073709551616) (w:World):Calls Tryz.prog 203 #[.int .u64 (a:Nat),.int .u64 (b:Nat)] w fun e w'=>e=.returned (.tuple #[.int .u64 ((a*b/18446744073709551616:Nat):Int),.int .u64 ((a*b%18446744073709551616:Nat):Int)])∧Below w.heap.size w w':=(mul64 a b ha hb w).mono fun e w' ⟨he,hw⟩=>⟨he,by rw [← hw];exact Below.refl _ _⟩
theorem rt_any (A B M:Nat) (hA:A<M) (hB:B<M) (hM:M<2^256) (h1:1<M):∀ w,Calls Tryz.prog 188 #[num A,num B,num M] w fun e w'=>e=.returned (num (A*B%M))∧Below w.heap.size w w':=by
 have W:=Jbv M hM
 by_cases hm:M<18446744073709551616
 ·rw [show decide (M<18446744073709551616)=true from decide_eq_true hm] at W
  have X:=mul64_any (wd A 0) (wd B 0) (Ue _ _) (Ue _ _)
  rw [Jhu A (by omega),Jhu B (by omega)] at X
  have hlt:A*B/18446744073709551616<M:=by
   refine Nat.div_lt_of_lt_mul ?_
   have:A*B<M*M:=Nat.mul_lt_mul'' hA hB
   have:M*M≤18446744073709551616*M:=Nat.mul_le_mul_right _ (by omega)
   omega
  have D:=div64_any (A*B/18446744073709551616) (A*B%18446744073709551616) M hlt hm (Nat.mod_lt _ (by decide))
  rw [show A*B/18446744073709551616*18446744073709551616+A*B%18446744073709551616=A*B by rw [Nat.mul_comm];exact Nat.div_add_mod _ _] at D
  have R:=Xg (A*B%M) (Nat.lt_trans (Nat.mod_lt _ (by omega)) hm)
  intro w
  refine times4_w A B M (A*B/18446744073709551616) (A*B%18446744073709551616) (A*B/M) (A*B%M) W (fun w=>?_) (fun w=>?_) R w
  ·rw [Jhu A (by omega),Jhu B (by omega)];exact X w
  ·rw [Jhu M hm];exact D w
 ·rw [show decide (M<18446744073709551616)=false from decide_eq_false hm] at W
  obtain ⟨L,H,hL,hH,he,_⟩:=mul_ex A B (by omega) (by omega)
  have MM:=rmul_any A B L H (by omega) (by omega) hL hH he
  have WD:=rwide_long L H M hL hH hM (by omega) (fun w=>by rw [eqZ M hM];simp;omega) (by have W2:=Jbv M hM;rw [show decide (M<18446744073709551616)=false from decide_eq_false hm] at W2;exact W2)
  rw [show wide H L%M=A*B%M by unfold wide;rw [he,Nat.add_comm,Nat.mul_comm]] at WD
  exact fun w=>times4_l A B M L H _ W MM WD w
theorem rm_yes (A B M:Nat) (hM:M<2^256) (h1:1<M) (hA:A<M) (hB:B<M):∀ w,Calls Tryz.prog 125 #[num A,num B,num M] w fun e w'=>e=.returned (.tuple #[num (A*B%M),.int .i64 0])∧Below w.heap.size w w':=by
 have MY:=Jdi A B M (by omega) (by omega) hM
 rw [show decide (1<M∧A<M∧B<M)=true from decide_eq_true ⟨h1,hA,hB⟩] at MY
 exact fun w=>rmul4_y A B M _ MY (rt_any A B M hA hB hM h1) w
end Go.Proofs.YtmmgmljkmmgjdaaGreatDoor
