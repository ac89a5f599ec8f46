import Derived.Test.YtcbnmdkmfdjpiaaRows
import Derived.WalkKit
import Derived.Below
import Derived.Deep.LoopGhost
import Derived.Lib.Hide
import Derived.Deep.Cut
import Derived.Test.YtcbnmdkmfdjpiaaPGCore
import Derived.Test.YtcbnmdkmfdjpiaaPGIn
import Derived.Test.YtcbnmdkmfdjpiaaPP10
import Derived.Test.YtcbnmdkmfdjpiaaPP8
import Derived.Test.YtcbnmdkmfdjpiaaPP9
import Derived.Test.YtcbnmdkmfdjpiaaPPrd
import Derived.Test.YtcbnmdkmfdjpiaaPShort
import Derived.Test.YtcbnmdkmfdjpiaaPSxS
namespace Go.Proofs.Ytcbnmdkmfdjpiaa
set_option maxRecDepth 100000
set_option maxHeartbeats 8000000
open Go.RowKit
set_option linter.unusedSimpArgs false
set_option linter.unusedVariables false

theorem least_six (n low:Nat) (e2:n%2≠0) (e3:n%3≠0) (h6:low%6=5) (h:∀ d,2≤d→d<low→n%d≠0) (h0:n%low≠0) (h2:n%(low+2)≠0) :
  ∀ d,2≤d→d<low+6→n%d≠0:=by
 intro d hd hl hz
 have k2:∀ m,d=2*m→False:=fun m hm=>e2 (Nat.mod_eq_zero_of_dvd (Nat.dvd_trans ⟨m,hm⟩ (Nat.dvd_of_mod_eq_zero hz)))
 have k3:∀ m,d=3*m→False:=fun m hm=>e3 (Nat.mod_eq_zero_of_dvd (Nat.dvd_trans ⟨m,hm⟩ (Nat.dvd_of_mod_eq_zero hz)))
 rcases Nat.lt_or_ge d low with h1 | h1
 ·exact h d hd h1 hz
 ·have:d=low∨d=low+1∨d=low+2∨d=low+3∨d=low+4∨d=low+5:=by omega
  rcases this with e | e | e | e | e | e
  ·exact h0 (e ▸ hz)
  ·exact k2 (d/2) (by omega)
  ·exact h2 (e ▸ hz)
  ·exact k2 (d/2) (by omega)
  ·exact k3 (d/3) (by omega)
  ·exact k2 (d/2) (by omega)

theorem idx2_0 (w:World) (a b:Int):Sem.run Try.prog (Instr.index 95 (.agg #[.int .u64 a,.int .u64 b]) (.int .i64 0)) w=.ok (.int .u64 a) w:=by
 simp [Instr.index,run_underlying Try.underlying95,asIntOf,go_sem]
theorem idx2_1 (w:World) (a b:Int):Sem.run Try.prog (Instr.index 95 (.agg #[.int .u64 a,.int .u64 b]) (.int .i64 1)) w=.ok (.int .u64 b) w:=by
 simp [Instr.index,run_underlying Try.underlying95,asIntOf,go_sem]
theorem int_mod {n d:Nat}:((n:Int)%(d:Int)=0) ↔ n%d=0:=by omega

theorem not_least_0 (n d P:Nat) (h5:5≤d) (h:2*d≤P) (hP:P≤n) (hz:(n:Int)%(d:Int)=0):d≠n∧¬ Pr.Pri n:=by
 have hz':=int_mod.mp hz
 have:d<n:=by omega
 exact ⟨by omega,Pr.not_pri_of (by omega) this hz'⟩

theorem least_any (n:Nat) (h2:1<n) (hn:n<4294967296) (w:World):Calls Try.prog 56 #[.int .u64 (n:Nat)] w fun e w'=>∃ d:Nat,e=.returned (.int .u64 (d:Nat))∧(d=n ↔ Pr.Pri n)∧Below w.heap.size w w':=by
 go_enter Try.func56,Try.ntmps56
 by_cases e2:(n:Int)%2=0
 ·go_wp2
  go_step3
  go_wp2
  rw [Exit.noGoto_ret]
  go_ret
  refine ⟨2,rfl,?_,Below.refl _ _⟩
  rcases Nat.lt_or_ge 2 n with h | h
  ·exact ⟨fun e=>by omega,fun hp=>absurd hp (Pr.not_pri_of (Nat.le_refl 2) h (by omega))⟩
  ·have:n=2:=by omega
   subst this
   exact ⟨fun _=>Pr.pri_of_small (by omega) fun d h1 h2=>by
    have:2*2≤d*d:=Nat.mul_le_mul h1 h1
    omega,fun _=>rfl⟩
 by_cases e3:(n:Int)%3=0
 ·go_wp2
  go_step3
  go_wp2
  rw [Exit.noGoto_ret]
  go_ret
  refine ⟨3,rfl,?_,Below.refl _ _⟩
  rcases Nat.lt_or_ge 3 n with h | h
  ·exact ⟨fun e=>by omega,fun hp=>absurd hp (Pr.not_pri_of (by omega) h (by omega))⟩
  ·have:n=3:=by omega
   subst this
   exact ⟨fun _=>Pr.pri_of_small (by omega) fun d h1 h2=>by
    have:2*2≤d*d:=Nat.mul_le_mul h1 h1
    omega,fun _=>rfl⟩
 go_wp2
 go_step3
 go_wp2
 go_step3
 go_wp2
 have f2:n%2≠0:=by omega
 have f3:n%3≠0:=by omega
 go_loopg [3,4] 65600 (fun g s3 s4 wr=>∃ low:Nat,s3=.int .u64 (n:Nat)∧s4=.int .u64 (low:Nat)∧5≤low∧low+g=65605∧Hid (low%6=5∧∀ d,2≤d→d<low→n%d≠0)∧Hid (Below w.heap.size w wr))
 case atStart=>exact ⟨5,rfl,rfl,by omega,by omega,⟨rfl,fun d h1 h2 h3=>by
  have:d=2∨d=3∨d=4:=by omega
  rcases this with e | e | e <;> (subst e;omega)⟩,Below.refl _ _⟩
 case round=>
  obtain ⟨low,rfl,rfl,h5,hlg,HI,BW⟩:=hrel
  obtain ⟨G,rfl⟩:∃ G:Nat,G=gk:=⟨_,rfl⟩
  have hll:low*low≤65605*65605:=Nat.mul_le_mul (by omega) (by omega)
  obtain ⟨P,hP⟩:∃ P,P=low*low:=⟨_,rfl⟩
  have hw:IntKind.wrap .u64 ((low:Int)*(low:Int))=(P:Int):=by
   rw [← Int.natCast_mul,← hP]
   rw [IntKind.wrap_u64]
   omega
  have hlp:low≤P∧5*low≤P:=by rw [hP];exact ⟨Nat.le_mul_of_pos_left _ (by omega),Nat.mul_le_mul_right _ h5⟩
  by_cases hle:(P:Int)≤(n:Int)
  ·have HP:=Jgm hP
   have HG:Hid (6≤G):=by
    show 6≤G
    rcases Nat.lt_or_ge G 6 with h | h
    ·have:65600*65600≤low*low:=Nat.mul_le_mul (by omega) (by omega)
     omega
    ·exact h
   clear hP hll
   go_wp2
   obtain ⟨wo,rfl⟩:∃ wo:World,wo=wr:=⟨_,rfl⟩
   go_loopg [3,27] 2 (fun g s3 s27 wi=>∃ i:Nat,s3=.int .u64 (n:Nat)∧s27=.int .i64 (i:Nat)∧i+g=2∧Hid (∀ j,j<i→n%(low+2*j)≠0)∧Hid (Below w.heap.size w wi))
   case atStart=>exact ⟨0,rfl,rfl,rfl,fun j h=>absurd h (Nat.not_lt_zero _),BW.out⟩
   case round=>
    obtain ⟨i,rfl,rfl,hig,HJ,BI⟩:=hrel
    have hc:i=0∨i=1∨i=2:=by omega
    have HIG:=Jgm hig
    clear hig
    rcases hc with rfl | rfl | rfl
    ·by_cases hz:(n:Int)%(low:Int)=0
     ·have ix:=idx2_0 wr (low:Int) ((low:Int)+2)
      have HZ:=Jgm (not_least_0 n low P h5 (by omega) (by omega) hz)
      go_wp2
      rw [Exit.noGoto_ret]
      go_ret
      exact ⟨low,rfl,⟨fun h=>absurd h HZ.out.1,fun h=>absurd h HZ.out.2⟩,BI.out⟩
     ·have ix:=idx2_0 wr (low:Int) ((low:Int)+2)
      go_wp2
      go_roundg 1
      case measure=>have:=HIG.out;omega
      case rel=>exact ⟨1,rfl,rfl,rfl,fun j hj=>by
       have:j=0:=by omega
       subst this
       exact fun h=>hz (int_mod.mpr h),BI.out⟩
    ·by_cases hz:(n:Int)%((low:Int)+2)=0
     ·have ix:=idx2_1 wr (low:Int) ((low:Int)+2)
      have HZ:=Jgm (not_least_0 n (low+2) P (by omega) (by omega) (by omega) hz)
      go_wp2
      rw [Exit.noGoto_ret]
      go_ret
      exact ⟨low+2,by simp,⟨fun h=>absurd h HZ.out.1,fun h=>absurd h HZ.out.2⟩,BI.out⟩
     ·have ix:=idx2_1 wr (low:Int) ((low:Int)+2)
      go_wp2
      go_roundg 0
      case measure=>have:=HIG.out;omega
      case rel=>exact ⟨2,rfl,rfl,rfl,fun j hj=>by
       have:j=0∨j=1:=by omega
       rcases this with e | e
       ·subst e;exact HJ.out 0 (by omega)
       ·subst e
        exact fun h=>hz (int_mod.mpr h),BI.out⟩
    ·go_wp2
     go_roundg (G-6)
     case measure=>have:=HG.out;omega
     case rel=>
      have hG:=HG.out
      refine ⟨low+6,rfl,by simp,by omega,by omega,⟨by have:=HI.out.1;omega,?_⟩,BI.out⟩
      exact least_six n low f2 f3 HI.out.1 HI.out.2 (by simpa using HJ.out 0 (by omega)) (by simpa using HJ.out 1 (by omega))
  ·have hpn:Pr.Pri n:=Pr.pri_of_small (by omega) fun d hd hdd=>HI.out.2 d hd (by
    apply Decidable.byContradiction;intro hc
    have:low*low≤d*d:=Nat.mul_le_mul (by omega) (by omega)
    omega)
   clear hP hll
   have HPN:=Jgm hpn
   clear hpn
   go_wp2
   go_ret
   exact ⟨n,rfl,⟨fun _=>HPN.out,fun _=>rfl⟩,BW.out⟩
noncomputable def smallB (n:Nat):Bool:=decide (n<4294967296) && Pr.priB n
theorem smallB_of {n:Nat} (h:n<4294967296):smallB n=Pr.priB n:=by simp [smallB,h]
theorem smallB_ge {n:Nat} (h:¬ n<4294967296):smallB n=false:=by simp [smallB,h]
theorem smallB_pri {n:Nat}:smallB n=true ↔ n<4294967296∧Pr.Pri n:=by simp [smallB,Pr.priB_iff]
theorem not_pri_lt {n:Nat} (h:n<2):Pr.priB n=false:=Pr.priB_not.mpr fun hp=>by have:=hp.1;omega

theorem small_any (n:Nat) (hn:n<18446744073709551616) (w:World):Calls Try.prog 40 #[.int .u64 (n:Nat)] w fun e w'=>e=.returned (.bool (smallB n))∧Below w.heap.size w w':=by
 go_enter Try.func40,Try.ntmps40
 by_cases h1:(1:Int)<(n:Int)
 ·by_cases h2:(n:Int)<4294967296
  ·have C:=least_any n (by omega) (by omega)
   have e:=smallB_of (n:=n) (by omega)
   go_wp2_with fail
   refine (C _).mono ?_
   rintro e w1 ⟨d,rfl,hd,z1⟩
   by_cases hp:d=n
   ·have hb:=Pr.priB_iff.mpr (hd.mp hp)
    subst hp
    clear hd
    go_wp2
    go_ret
    exact ⟨by rw [e,hb];rfl,z1⟩
   ·have hne:((d:Int)==(n:Int))=false:=by rw [beq_eq_false_iff_ne];omega
    have hb:=Pr.priB_not.mpr fun h=>hp (hd.mpr h)
    clear hd hp
    go_wp2
    go_ret
    exact ⟨by rw [e,hb];rfl,z1⟩
  ·have e:=smallB_ge (n:=n) (by omega)
   go_wp2
   go_ret
   exact ⟨by first | rfl | (rw [e];rfl),Below.refl _ _⟩
 ·have e:smallB n=false:=by
   rw [smallB_of (by omega)];exact not_pri_lt (by omega)
  go_wp2
  go_ret
  exact ⟨by first | rfl | (rw [e];rfl),Below.refl _ _⟩

theorem prod_low (P Q G H la ca lb cb:Nat) (pa pb:Option Addr) (hP:P<2^256) (hk:Jbv P 1≤0) (w:World):Calls Try.prog 59 #[grp P Q G H,.slice pa la ca,.slice pb lb cb] w fun e w'=>e=.returned (.tuple #[num 0,.int .i64 1])∧Below w.heap.size w w':=by
 refine Kc (args:=[grp P Q G H,.slice pa la ca,.slice pb lb cb]) Try.func59 rfl Try.ntmps59 (by rfl) fun a F HM=>?_
 refine Kgr ?_
 refine Jn F HM (Ja rfl _) rfl (by rfl) (Kn (F.ev rfl)) fun a w gr F HM=>?_
 refine Jn F HM (Ja rfl _) rfl (by rfl) (Kd) fun a w go F HM=>?_
 refine Jn F HM (Ja rfl _) rfl (by rfl) (Wy) fun a w ge F HM=>?_
 refine Jf ?_
 refine Kgr ?_
 refine Jr F (Ja rfl _) rfl (by rfl) (Ji Try.func23 (by kernel_rfl) (by rfl) (.cons rfl .nil) _) ((fun w=>Vd 1 (by decide) w) _) fun a w z F=>?_
 replace HM:=HM.on z
 clear z
 refine Jn F HM (Ja rfl _) rfl (by rfl) (Kd) fun a w gl F HM=>?_
 refine Ju F HM (Ja rfl _) rfl (k:=0) rfl (Ka (F.ev rfl) (F.ev rfl) (HM.get 0 rfl)) (M2:=[(gl,24,ncs 1),(ge,33,#[.int .i64 0]),(go,24,ncs 0),(gr,26,gcs P Q G H)]) rfl fun w HM=>?_
 refine Jf ?_
 refine Kgr ?_
 refine lxv (.pointer (some ⟨gr,0,none⟩)) F (Kk (F.ev rfl)) fun a F=>?_
 refine lxv (num P) F (Us (F.ev rfl) (HM.get 3 rfl)) fun a F=>?_
 refine lxv (num 1) F (Kg (F.ev rfl) (HM.get 0 rfl)) fun a F=>?_
 refine Jr F (Ja rfl _) rfl (by rfl) (Ji Try.func64 (by kernel_rfl) (by rfl) (.cons (F.ev rfl) (.cons (F.ev rfl) .nil)) _) ((fun w=>Uh P 1 hP (by decide) w) _) fun a w z F=>?_
 replace HM:=HM.on z
 clear z
 refine lxv (.bool true) F (Ua (u:=.int .i64 (Jbv P 1)) (v:=.int .i64 0) (fun ρ hx hy=>by simp only [execOp,hx,hy];simp [go_sem];exact hk) (F.ev rfl) rfl) fun a F=>?_
 refine lxv (.bool true) F (Jc (F.ev rfl)) fun a F=>?_
 refine lxp 19 true F fun a F=>?_
 refine lxp 19 true F fun a F=>?_
 refine lxp 19 true F fun a F=>?_
 refine lxp 19 true F fun a F=>?_
 refine lxp 19 true F fun a F=>?_
 refine lxv (.bool true) F (Jt (b:=true) (r:=.bool true) (F.ev rfl) rfl (F.ev rfl) rfl) fun a F=>?_
 refine Jf ?_
 refine Kgq ?_
 refine wp_cond_true (F.ev rfl) ?_
 refine Kgr ?_
 refine lxv (num 0) F (Ut) fun a F=>?_
 refine Ju F HM (Ja rfl _) rfl (k:=2) rfl (Ka (F.ev rfl) (F.ev rfl) (HM.get 2 rfl)) (M2:=[(gl,24,ncs 1),(ge,33,#[.int .i64 0]),(go,24,ncs 0),(gr,26,gcs P Q G H)]) rfl fun w HM=>?_
 refine Ju F HM (Ja rfl _) rfl (k:=1) rfl (Vi (F.ev rfl) rfl (HM.get 1 rfl)) (M2:=[(gl,24,ncs 1),(ge,33,#[.int .i64 1]),(go,24,ncs 0),(gr,26,gcs P Q G H)]) rfl fun w HM=>?_
 refine Jf ?_
 refine Kgq ?_
 refine wp_ret ?_
 repeat (first | refine Jv ?_ | refine Jp ?_)
 exact Kv F HM (Jet F (s:=6) (t:=7) rfl rfl rfl (HM.get 2 rfl) (HM.get 1 rfl))

theorem prod_len (P Q G H la ca lb cb:Nat) (pa pb:Option Addr) (hP:P<2^256) (hk:0<Jbv P 1) (hl:¬ la=lb) (w:World):Calls Try.prog 59 #[grp P Q G H,.slice pa la ca,.slice pb lb cb] w fun e w'=>e=.returned (.tuple #[num 0,.int .i64 1])∧Below w.heap.size w w':=by
 refine Kc (args:=[grp P Q G H,.slice pa la ca,.slice pb lb cb]) Try.func59 rfl Try.ntmps59 (by rfl) fun a F HM=>?_
 refine Kgr ?_
 refine Jn F HM (Ja rfl _) rfl (by rfl) (Kn (F.ev rfl)) fun a w gr F HM=>?_
 refine Jn F HM (Ja rfl _) rfl (by rfl) (Kd) fun a w go F HM=>?_
 refine Jn F HM (Ja rfl _) rfl (by rfl) (Wy) fun a w ge F HM=>?_
 refine Jf ?_
 refine Kgr ?_
 refine Jr F (Ja rfl _) rfl (by rfl) (Ji Try.func23 (by kernel_rfl) (by rfl) (.cons rfl .nil) _) ((fun w=>Vd 1 (by decide) w) _) fun a w z F=>?_
 replace HM:=HM.on z
 clear z
 refine Jn F HM (Ja rfl _) rfl (by rfl) (Kd) fun a w gl F HM=>?_
 refine Ju F HM (Ja rfl _) rfl (k:=0) rfl (Ka (F.ev rfl) (F.ev rfl) (HM.get 0 rfl)) (M2:=[(gl,24,ncs 1),(ge,33,#[.int .i64 0]),(go,24,ncs 0),(gr,26,gcs P Q G H)]) rfl fun w HM=>?_
 refine Jf ?_
 refine Kgr ?_
 refine lxv (.pointer (some ⟨gr,0,none⟩)) F (Kk (F.ev rfl)) fun a F=>?_
 refine lxv (num P) F (Us (F.ev rfl) (HM.get 3 rfl)) fun a F=>?_
 refine lxv (num 1) F (Kg (F.ev rfl) (HM.get 0 rfl)) fun a F=>?_
 refine Jr F (Ja rfl _) rfl (by rfl) (Ji Try.func64 (by kernel_rfl) (by rfl) (.cons (F.ev rfl) (.cons (F.ev rfl) .nil)) _) ((fun w=>Uh P 1 hP (by decide) w) _) fun a w z F=>?_
 replace HM:=HM.on z
 clear z
 refine lxv (.bool false) F (Ua (u:=.int .i64 (Jbv P 1)) (v:=.int .i64 0) (fun ρ hx hy=>by simp only [execOp,hx,hy];simp [go_sem];exact hk) (F.ev rfl) rfl) fun a F=>?_
 refine lxv (.bool false) F (Jc (F.ev rfl)) fun a F=>?_
 refine lxw 19 false (.slice pa la ca) F (Jc (F.ev rfl)) fun a F=>?_
 refine lxw 19 false (.int .i64 (la:Nat)) F (Ur (F.ev rfl)) fun a F=>?_
 refine lxw 19 false (.slice pb lb cb) F (Jc (F.ev rfl)) fun a F=>?_
 refine lxw 19 false (.int .i64 (lb:Nat)) F (Ur (F.ev rfl)) fun a F=>?_
 refine lxw 19 false (.bool true) F (Ua (u:=.int .i64 (la:Nat)) (v:=.int .i64 (lb:Nat)) (fun ρ hx hy=>by simp only [execOp,hx,hy];simp [go_sem];omega) (F.ev rfl) (F.ev rfl)) fun a F=>?_
 refine lxv (.bool true) F (Jt (b:=false) (r:=.bool true) (F.ev rfl) rfl (F.ev rfl) rfl) fun a F=>?_
 refine Jf ?_
 refine Kgq ?_
 refine wp_cond_true (F.ev rfl) ?_
 refine Kgr ?_
 refine lxv (num 0) F (Ut) fun a F=>?_
 refine Ju F HM (Ja rfl _) rfl (k:=2) rfl (Ka (F.ev rfl) (F.ev rfl) (HM.get 2 rfl)) (M2:=[(gl,24,ncs 1),(ge,33,#[.int .i64 0]),(go,24,ncs 0),(gr,26,gcs P Q G H)]) rfl fun w HM=>?_
 refine Ju F HM (Ja rfl _) rfl (k:=1) rfl (Vi (F.ev rfl) rfl (HM.get 1 rfl)) (M2:=[(gl,24,ncs 1),(ge,33,#[.int .i64 1]),(go,24,ncs 0),(gr,26,gcs P Q G H)]) rfl fun w HM=>?_
 refine Jf ?_
 refine Kgq ?_
 refine wp_ret ?_
 repeat (first | refine Jv ?_ | refine Jp ?_)
 exact Kv F HM (Jet F (s:=6) (t:=7) rfl rfl rfl (HM.get 2 rfl) (HM.get 1 rfl))

theorem Jdr {w:World} {M:List (Nat × TypeId × Array Value)} {n0:Nat} {w0:World} {g:Nat} (H:Mem n0 w0 w M) (hg:w.heap.size≤g):∀ x∈M,x.1≠g:=fun x hx=>by have:=H.lt x hx;omega
theorem sof_256 {Q:Nat} {n:Int} (hQ:Q<2^256):Ki Q n<2^256:=by
 unfold Ki
 split
 ·rename_i h
  have h1:=Int.emod_lt_of_pos n (show (0:Int)<(Q:Int) by omega)
  have h2:=Int.emod_nonneg n (show (Q:Int)≠0 by omega)
  omega
 ·decide
def prB (P:Nat) (bs ns:List Nat):Bool:=decide (1<P) && decide (bs.length=ns.length) && bs.all (Jbo P)
def prV (P:Nat) (bs ns:List Nat):Nat:=(bs.zip ns).foldl (fun s x=>s*(x.1^x.2%P)%P) 1
theorem np_of:∀ (bs ns:List Nat),bs.length=ns.length→(∀ x∈bs,x<2^256)→(∀ x∈ns,x<2^256)→∃ zs:List NP,zs.map (·.1.1)=bs∧zs.map (·.1.2)=ns∧zs.map (·.1)=bs.zip ns
 | [],[],_,_,_=>⟨[],rfl,rfl,rfl⟩
 | [],_::_,h,_,_=>by simp at h
 | _::_,[],h,_,_=>by simp at h
 | a::bs,n::ns,h,ha,hn=>by
  obtain ⟨zs,h1,h2,h3⟩:=np_of bs ns (by simpa using h) (fun x hx=>ha x (List.mem_cons_of_mem _ hx)) (fun x hx=>hn x (List.mem_cons_of_mem _ hx))
  exact ⟨⟨(a,n),ha a List.mem_cons_self,hn n List.mem_cons_self⟩::zs,by simp [h1],by simp [h2],by simp [h3]⟩
theorem cmpN_le0 {P:Nat} (h:¬ 1<P):Jbv P 1≤0:=by
 unfold Jbv
 split
 ·decide
 ·split
  ·decide
  ·omega
theorem mayAll_eq {P:Nat} {zs:List NP} {bs:List Nat} (h:zs.map (·.1.1)=bs):Jec P zs=bs.all (Jbo P):=by
 subst h
 simp [Jec,List.all_map,Function.comp_def]
theorem prodN_eq {P:Nat} {zs:List NP} {l:List (Nat × Nat)} (h:zs.map (·.1)=l):Wd P zs=l.foldl (fun s x=>s*(x.1^x.2%P)%P) 1:=by
 subst h
 unfold Wd
 rw [List.foldl_map]
theorem prod_is (P Q G H la ca lb cb:Nat) (pa pb:Option Addr) (bs ns:List Nat) (hP:P<2^256) (w0:World) (ra:RN w0.heap.size w0 pa la ca bs) (rn:RN w0.heap.size w0 pb lb cb ns) :
  Calls Try.prog 59 #[grp P Q G H,.slice pa la ca,.slice pb lb cb] w0 fun e w'=>e=.returned (if prB P bs ns=true then .tuple #[num (prV P bs ns),.int .i64 0] else .tuple #[num 0,.int .i64 1])∧Below w0.heap.size w0 w':=by
 by_cases h1:1<P
 ·by_cases hl:la=lb
  ·obtain ⟨zs,e1,e2,e3⟩:=np_of bs ns (by rw [ra.1,rn.1,hl]) ra.2.2.2.1 rn.2.2.2.1
   have hz:zs.length=la:=by rw [← ra.1,← e1,List.length_map]
   have h:=prod_good P Q G H zs pa pb ca cb hP h1 w0 (by rw [e1];exact ra.2) (by rw [e2];exact rn.2)
   rw [hz,mayAll_eq e1,prodN_eq e3] at h
   have hb:prB P bs ns=bs.all (Jbo P):=by unfold prB;rw [decide_eq_true h1,decide_eq_true (by rw [ra.1,rn.1,hl])];rfl
   rw [hb]
   rw [← hl]
   exact h
  ·have hb:¬ prB P bs ns=true:=by
    unfold prB
    rw [decide_eq_false (show ¬ bs.length=ns.length by rw [ra.1,rn.1];exact hl)]
    simp
   rw [if_neg hb]
   exact prod_len P Q G H la ca lb cb pa pb hP (by rw [Jdp h1];decide) hl w0
 ·have hb:¬ prB P bs ns=true:=by unfold prB;rw [decide_eq_false h1];simp
  rw [if_neg hb]
  exact prod_low P Q G H la ca lb cb pa pb hP (cmpN_le0 h1) w0
theorem Jff (P Q G H la ca lb cb:Nat) (pa pb:Option Addr) (bs ns:List Nat) (hP:P<2^256) (w0:World) (h:prB P bs ns=true) (ra:RN w0.heap.size w0 pa la ca bs) (rn:RN w0.heap.size w0 pb lb cb ns) :
  Calls Try.prog 59 #[grp P Q G H,.slice pa la ca,.slice pb lb cb] w0 fun e w'=>e=.returned (.tuple #[num (prV P bs ns),.int .i64 0])∧Below w0.heap.size w0 w':=by
 have:=prod_is P Q G H la ca lb cb pa pb bs ns hP w0 ra rn
 rwa [if_pos h] at this
end Go.Proofs.Ytcbnmdkmfdjpiaa
