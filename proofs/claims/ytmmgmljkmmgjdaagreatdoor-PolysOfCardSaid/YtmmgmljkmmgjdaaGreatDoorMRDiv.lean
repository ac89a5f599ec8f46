import Derived.Deep.Cut
import Derived.Test.YtmmgmljkmmgjdaaGreatDoorMRCmp
import Derived.Test.YtmmgmljkmmgjdaaGreatDoorMRMul
import Derived.Test.YtmmgmljkmmgjdaaGreatDoorMRWord
import Derived.Test.YtmmgmljkmmgjdaaGreatDoorMSxS
import Derived.Test.YtmmgmljkmmgjdaaGreatDoorMTree
namespace Go.Proofs.YtmmgmljkmmgjdaaGreatDoor
set_option maxRecDepth 100000
set_option maxHeartbeats 8000000
open Go.RowKit
set_option linter.unusedSimpArgs false
set_option linter.unusedVariables false
attribute [local go_sem ↓] Go.wp_at_zero Go.wp_at_succ

section
variable {x y z:Operand} {dst:Option Tmp} {ty:TypeId} {pos:String} {after:Array Edge} {guard:Option (Nat × Bool)} {ρ:Operand→Value} {w:World} {g:Nat}
theorem Jgf {X k v:Nat} (hk:k<4) (hx:ρ x=.pointer (some ⟨g,k,none⟩)) (hy:ρ y=.int .u64 (v:Nat)) (h:At w g 24 (ncs X)):(execOp ρ ⟨dst,.store 22 x y,ty,pos,after,guard⟩).run Tryz.prog w=.ok .skip (puts w g k [.int .u64 (v:Nat)]):=by
 have c:=h.word hk
 have f:w.frozen? ⟨g,k,none⟩=false:=h.frozen k
 simp [execOp,hx,hy,go_sem,puts,c,f]
end
theorem res_NNI {fn:Func} {a:Act} {N:Nat} {L:List (Nat × Value)} {df:List Deferred} {w:World} (F:Fr a N L df) {s t u gs gt X Y:Nat} {e:Int} (hf:fn.results=#[.cell s 24,.cell t 24,.tmp u]) (h1:lk L s=some (.pointer (some ⟨gs,0,none⟩))) (h2:lk L t=some (.pointer (some ⟨gt,0,none⟩))) (h3:lk L u=some (.int .i64 e))
  (A1:At w gs 24 (ncs X)) (A2:At w gt 24 (ncs Y)):(results fn a.tmps).run Tryz.prog w=.ok (.tuple #[num X,num Y,.int .i64 e]) w:=by
 have e1:=F.get s _ h1
 have e2:=F.get t _ h2
 have e3:=F.get u _ h3
 rw [Array.getD_eq_getD_getElem?] at e1 e2 e3
 have c0:w.cell? ⟨gs,0,none⟩=some (.int .u64 (wd X 0)):=A1.cell 0
 have c1:w.cell? ⟨gs,1,none⟩=some (.int .u64 (wd X 1)):=A1.cell 1
 have c2:w.cell? ⟨gs,2,none⟩=some (.int .u64 (wd X 2)):=A1.cell 2
 have c3:w.cell? ⟨gs,3,none⟩=some (.int .u64 (wd X 3)):=A1.cell 3
 have d0:w.cell? ⟨gt,0,none⟩=some (.int .u64 (wd Y 0)):=A2.cell 0
 have d1:w.cell? ⟨gt,1,none⟩=some (.int .u64 (wd Y 1)):=A2.cell 1
 have d2:w.cell? ⟨gt,2,none⟩=some (.int .u64 (wd Y 2)):=A2.cell 2
 have d3:w.cell? ⟨gt,3,none⟩=some (.int .u64 (wd Y 3)):=A2.cell 3
 simp [results,hf,go_sem,e1,e2,e3,c0,c1,c2,c3,d0,d1,d2,d3]
theorem Jdt (A B:Nat) (hA:A<2^256) (hB:B<2^256) (h0:B≠0) (w0:World):Calls Tryz.prog 121 #[num A,num B] w0 fun e w'=>e=.returned (.tuple #[num (A/B),num (A%B),.int .i64 0])∧Below w0.heap.size w0 w':=by
 refine Jx (args:=[num A,num B]) Tryz.func121 rfl Tryz.ntmps121 (by rfl) fun a F HM=>?_
 refine Kgr ?_
 refine Jn F HM (Ja rfl _) rfl (by rfl) (Kw (F.ev rfl)) fun a w ga F HM=>?_
 refine Jn F HM (Ja rfl _) rfl (by rfl) (Kw (F.ev rfl)) fun a w gb F HM=>?_
 refine Jn F HM (Ja rfl _) rfl (by rfl) (Jw) fun a w gq F HM=>?_
 refine Jn F HM (Ja rfl _) rfl (by rfl) (Jw) fun a w gr F HM=>?_
 refine lxv (.int .i64 0) F (Je rfl) fun a F=>?_
 refine Jc ?_
 refine Kgr ?_
 refine lxv (num B) F (Jp (F.ev rfl) (HM.get 2 rfl)) fun a F=>?_
 refine lxv (num 0) F (Uc) fun a F=>?_
 refine lxv (.bool false) F (Jcd hB (show 0<2^256 by decide) (decide_eq_false h0) (F.ev rfl) (F.ev rfl)) fun a F=>?_
 refine Jc ?_
 refine Kgq ?_
 refine wp_cond_false (F.ev rfl) ?_
 have WA:=Jbv A hA
 have WB:=Jbv B hB
 by_cases hs:A<18446744073709551616∧B<18446744073709551616
 ·obtain ⟨ha,hb⟩:=hs
  rw [decide_eq_true ha] at WA
  rw [decide_eq_true hb] at WB
  have w0e:∀ X,X<18446744073709551616→wd X 0=X:=fun X h=>by unfold wd;rw [Nat.pow_zero,Nat.div_one,Nat.mod_eq_of_lt h]
  obtain ⟨V,hV⟩:∃ V,V=A/B:=⟨_,rfl⟩
  obtain ⟨R0,hR0⟩:∃ R,R=A%B:=⟨_,rfl⟩
  have vl:V<18446744073709551616:=by rw [hV];exact Nat.lt_of_le_of_lt (Nat.div_le_self _ _) ha
  have rl:R0<18446744073709551616:=by rw [hR0];exact Nat.lt_of_le_of_lt (Nat.mod_le _ _) ha
  rw [← hV,← hR0]
  have hV2:V=wd A 0/wd B 0:=by rw [w0e A ha,w0e B hb];exact hV
  have hR2:R0=wd A 0%wd B 0:=by rw [w0e A ha,w0e B hb];exact hR0
  have b0:wd B 0≠0:=by rw [w0e B hb];exact h0
  refine Kgr ?_
  refine lxv (num A) F (Jp (F.ev rfl) (HM.get 3 rfl)) fun a F=>?_
  refine Jj F (Ja rfl _) rfl (by rfl) (Jh Tryz.func181 (by kernel_rfl) (by rfl) (.cons (F.ev rfl) .nil) _) (WA _) fun a w z F=>?_
  replace HM:=HM.on z
  clear z
  refine lxv (.bool true) F (Jb (F.ev rfl)) fun a F=>?_
  refine lxw 19 true (num B) F (Jp (F.ev rfl) (HM.get 2 rfl)) fun a F=>?_
  refine Jj F (F.want (t:=19) (c:=true) rfl rfl rfl (by rfl) rfl) rfl (by rfl) (Jh Tryz.func181 (by kernel_rfl) (by rfl) (.cons (F.ev rfl) .nil) _) (WB _) fun a w z F=>?_
  replace HM:=HM.on z
  clear z
  refine lxv (.bool true) F (Kc (b:=true) (r:=.bool true) (F.ev rfl) (F.ev rfl) rfl rfl) fun a F=>?_
  refine Jc ?_
  refine Kgq ?_
  refine wp_cond_true (F.ev rfl) ?_
  refine Kgq ?_
  try simp only [List.append_eq,List.cons_append,List.nil_append]
  refine Jab [⟨0,23,[],.val (.pointer (some ⟨ga,0,none⟩)),true⟩,
   ⟨1,24,[0],.val (.int .u64 (wd A 0)),false⟩,
   ⟨2,25,[],.val (.pointer (some ⟨gb,0,none⟩)),true⟩,
   ⟨3,26,[2],.val (.int .u64 (wd B 0)),false⟩,
   ⟨4,27,[1,3],.val (.int .u64 (V:Nat)),true⟩,
   ⟨6,29,[],.val (.pointer (some ⟨ga,0,none⟩)),true⟩,
   ⟨7,30,[5],.val (.int .u64 (wd A 0)),false⟩,
   ⟨8,31,[],.val (.pointer (some ⟨gb,0,none⟩)),true⟩,
   ⟨9,32,[7],.val (.int .u64 (wd B 0)),false⟩,
   ⟨10,33,[6,8],.val (.int .u64 (R0:Nat)),true⟩,
   ⟨5,28,[4],.val (num V),false⟩,
   ⟨11,34,[9],.val (num R0),false⟩] 3 F HM (by kernel_rfl) (by rfl) (by rfl) ?_ ?_ ?_ ?_ ?_ ?_ ?_
  ·kernel_rfl
  ·exact of_decide_eq_true (by kernel_rfl)
  ·(repeat refine all_cons ⟨_,by rfl,by rfl⟩ ?_);exact all_nil
  ·kernel_rfl
  ·(repeat (refine all_cons ?_ ?_;rotate_left));exact all_nil
   all_goals try exact Jm _ (by rfl)
   ·exact Wt _ _ _ _ _ _ _ (by rfl) (by rfl) Jg (fun ρ w kn hs=>Vi _ _ _ _ _ _ _ ρ w ga 0 (by first | decide | assumption) (kn _ _ (F.old (by rfl) rfl)) (kn _ _ (Ji _)))
   ·exact Wt _ _ _ _ _ _ _ (by rfl) (by rfl) Jg (fun ρ w kn hs=>Vi _ _ _ _ _ _ _ ρ w gb 0 (by first | decide | assumption) (kn _ _ (F.old (by rfl) rfl)) (kn _ _ (Ji _)))
   ·exact crS (fun ρ w kn hs=>quo64_run _ _ _ _ _ _ _ ρ w (wd A 0) (wd B 0) V b0 hV2 vl (kn _ _ (kc 1 24)) (kn _ _ (kc 3 26)))
   ·exact Wt _ _ _ _ _ _ _ (by rfl) (by rfl) Jg (fun ρ w kn hs=>Vi _ _ _ _ _ _ _ ρ w ga 0 (by first | decide | assumption) (kn _ _ (F.old (by rfl) rfl)) (kn _ _ (Ji _)))
   ·exact Wt _ _ _ _ _ _ _ (by rfl) (by rfl) Jg (fun ρ w kn hs=>Vi _ _ _ _ _ _ _ ρ w gb 0 (by first | decide | assumption) (kn _ _ (F.old (by rfl) rfl)) (kn _ _ (Ji _)))
   ·exact crS (fun ρ w kn hs=>rem64_run _ _ _ _ _ _ _ ρ w (wd A 0) (wd B 0) R0 b0 hR2 rl (kn _ _ (kc 6 30)) (kn _ _ (kc 8 32)))
  ·(repeat (refine all_cons ?_ ?_;rotate_left));exact all_nil
   all_goals try exact sA
   ·exact fun _=>Um _ _ _ _ _ _ (by rfl) (by rfl) (fun ρ w kn hb=>Vw _ _ _ _ _ _ ρ w ga 0 _ (kn _ _ (kc 0 23)) (((HM.on hb).get 3 rfl).word (by first | decide | assumption)))
   ·exact fun _=>Um _ _ _ _ _ _ (by rfl) (by rfl) (fun ρ w kn hb=>Vw _ _ _ _ _ _ ρ w gb 0 _ (kn _ _ (kc 2 25)) (((HM.on hb).get 2 rfl).word (by first | decide | assumption)))
   ·exact fun _=>Um _ _ _ _ _ _ (by rfl) (by rfl) (fun ρ w kn hb=>Vw _ _ _ _ _ _ ρ w ga 0 _ (kn _ _ (kc 5 29)) (((HM.on hb).get 3 rfl).word (by first | decide | assumption)))
   ·exact fun _=>Um _ _ _ _ _ _ (by rfl) (by rfl) (fun ρ w kn hb=>Vw _ _ _ _ _ _ ρ w gb 0 _ (kn _ _ (kc 7 31)) (((HM.on hb).get 2 rfl).word (by first | decide | assumption)))
   ·exact fun _=>Jl _ 122 _ _ [.tmp 27] _ _ _ _ _ _ _ (by rfl) Tryz.func122 (by kernel_rfl) (by rfl) (by rfl) (Jg) (.cons (kc 4 27) .nil) ((Xg V vl))
   ·exact fun _=>Jl _ 122 _ _ [.tmp 33] _ _ _ _ _ _ _ (by rfl) Tryz.func122 (by kernel_rfl) (by rfl) (by rfl) (Jg) (.cons (kc 9 33) .nil) ((Xg R0 rl))
  intro gs rs a w hgs hrs F HM
  obtain rfl:=nl0 rs hrs
  clear hrs
  obtain rfl:=nl0 gs hgs
  clear hgs
  refine Kn (i:=12) HM (by kernel_rfl) (by rfl) rfl rfl (k:=1) rfl (Jq (F.ev rfl) (F.ev rfl) (HM.get 1 rfl)) (M2:=[(gr,24,ncs 0),(gq,24,ncs V),(gb,24,ncs B),(ga,24,ncs A)]) rfl (fun _ _=>trivial) fun w HM=>?_
  refine Kn (i:=13) HM (by kernel_rfl) (by rfl) rfl rfl (k:=0) rfl (Jq (F.ev rfl) (F.ev rfl) (HM.get 0 rfl)) (M2:=[(gr,24,ncs R0),(gq,24,ncs V),(gb,24,ncs B),(ga,24,ncs A)]) rfl (fun _ _=>trivial) fun w HM=>?_
  refine Us (i:=14) (d:=6) (x:=.const (.int .i64 0)) (v:=.int .i64 0) F (trivial) (by kernel_rfl) (by rfl) (by rfl) rfl fun a F=>?_
  refine Ks (by kernel_rfl) ?_ _
  refine Kgq ?_
  refine wp_ret ?_
  repeat (first | refine Jt ?_ | refine Jo ?_)
  exact Kp F HM (res_NNI F (s:=4) (t:=5) (u:=6) rfl rfl rfl rfl (HM.get 1 rfl) (HM.get 0 rfl))
 ·refine Kgq ?_
  refine Code.wp_mono (Q:=fun e a w1=>e=.normal∧Fr a 80 [(22,.bool false),(2,.pointer (some ⟨ga,0,none⟩)),(3,.pointer (some ⟨gb,0,none⟩)),(4,.pointer (some ⟨gq,0,none⟩)),(5,.pointer (some ⟨gr,0,none⟩)),(6,.int .i64 0)] []∧Mem w0.heap.size w0 w1 [(gr,24,ncs 0),(gq,24,ncs 0),(gb,24,ncs B),(ga,24,ncs A)]) ?_ ?_
  ·rintro e a w ⟨rfl,F,HM⟩
   clear WA WB hs
   refine Kgq ?_
   refine wp_cond_false (F.ev rfl) ?_
   refine Kgr ?_
   refine Jn F HM (Ja rfl _) rfl (by rfl) (Jw) fun a w gu F HM=>?_
   refine Jn F HM (Ja rfl _) rfl (by rfl) (Jw) fun a w gs F HM=>?_
   refine Jc ?_
   refine Kgr ?_
   refine lxv (.int .i64 255) F (Je rfl) fun a F=>?_
   refine Jc ?_
   refine Kgq ?_
   refine wp_loop (fun a w1=>∃ i Q rr:Nat,i≤256∧rr<B∧A/2^i=Q*B+rr∧Fr a 80 [(9,.int .i64 ((i:Int)-1)),(8,.pointer (some ⟨gs,0,none⟩)),(7,.pointer (some ⟨gu,0,none⟩)),(2,.pointer (some ⟨ga,0,none⟩)),(3,.pointer (some ⟨gb,0,none⟩)),(4,.pointer (some ⟨gq,0,none⟩)),(5,.pointer (some ⟨gr,0,none⟩)),(6,.int .i64 0)] []∧Mem w0.heap.size w0 w1 [(gs,24,ncs rr),(gu,24,ncs (Q*2^i)),(gr,24,ncs 0),(gq,24,ncs 0),(gb,24,ncs B),(ga,24,ncs A)]) (fun a _=>(intOf (a.tmps.getD 9 undef)+1).toNat) ⟨256,0,0,Nat.le_refl _,by omega,by rw [Nat.div_eq_of_lt hA];simp,F.sub [9,8,7,2,3,4,5,6],by rw [Nat.zero_mul];exact HM⟩ ?_
   clear F HM
   rintro aS wS ⟨i,Q,rr,hi,hrb,hE,FS,HM⟩
   have F:=FS
   by_cases hi0:i=0
   ·refine Kgr ?_
    refine lxv (.int .i64 ((i:Int)-1)) F (Jb (F.ev rfl)) fun a F=>?_
    refine lxv (.bool false) F (Jz (u:=.int .i64 ((i:Int)-1)) (v:=.int .i64 0) (fun ρ hx hy=>by simp only [execOp,hx,hy];simp [go_sem] <;> omega) (F.ev rfl) rfl) fun a F=>?_
    refine Jc ?_
    refine Kgq ?_
    refine wp_cond_false (F.ev rfl) ?_
    refine Kgq ?_
    refine wp_exit ?_
    repeat (first | refine Kk ?_ | refine Kd ?_)
    subst hi0
    rw [Nat.pow_zero,Nat.div_one] at hE
    rw [Nat.pow_zero,Nat.mul_one] at HM
    have hv:A/B=Q:=by rw [hE,Nat.mul_comm,Nat.mul_add_div (by omega),Nat.div_eq_of_lt hrb,Nat.add_zero]
    have hr:A%B=rr:=by rw [hE,Nat.mul_comm,Nat.mul_add_mod,Nat.mod_eq_of_lt hrb]
    rw [hv,hr]
    clear FS hE hv hr
    refine Kgq ?_
    try simp only [List.append_eq,List.cons_append,List.nil_append]
    refine sx_drawnS (S:=fun w1=>At w1 gu 24 (ncs Q)∧At w1 gs 24 (ncs rr)) [⟨0,78,[],.val (num Q),true⟩,
   ⟨1,79,[0],.val (num rr),true⟩] 3 F HM (fun _ h=>⟨h.get 1 rfl,h.get 0 rfl⟩) (by kernel_rfl) (by rfl) (by rfl) ?_ ?_ ?_ ?_ ?_ ?_ ?_
    ·kernel_rfl
    ·exact of_decide_eq_true (by kernel_rfl)
    ·(repeat refine all_cons ⟨_,by rfl,by rfl⟩ ?_);exact all_nil
    ·kernel_rfl
    ·refine all_cons ?_ (all_cons ?_ (all_nil))
     ·exact Wt _ _ _ _ _ _ _ (by rfl) (by rfl) Jg (fun ρ w kn hs=>Jp (kn _ _ (F.old (by rfl) rfl)) hs.1)
     ·exact Wt _ _ _ _ _ _ _ (by rfl) (by rfl) Jg (fun ρ w kn hs=>Jp (kn _ _ (F.old (by rfl) rfl)) hs.2)
    ·refine all_cons ?_ (all_cons ?_ (all_nil))
     ·exact sA
     ·exact sA
    intro gs rs a w2 hgs hrs F HM HBW
    obtain rfl:=nl0 rs hrs
    clear hrs
    obtain rfl:=nl0 gs hgs
    clear hgs
    refine Kn (i:=2) HM (by kernel_rfl) (by rfl) rfl rfl (k:=3) rfl (Jq (F.ev rfl) (F.ev rfl) (HM.get 3 rfl)) (M2:=[(gs,24,ncs rr),(gu,24,ncs Q),(gr,24,ncs 0),(gq,24,ncs Q),(gb,24,ncs B),(ga,24,ncs A)]) rfl (fun _ h=>⟨h.get 1 rfl,h.get 0 rfl⟩) fun w HM=>?_
    refine Kn (i:=3) HM (by kernel_rfl) (by rfl) rfl rfl (k:=2) rfl (Jq (F.ev rfl) (F.ev rfl) (HM.get 2 rfl)) (M2:=[(gs,24,ncs rr),(gu,24,ncs Q),(gr,24,ncs rr),(gq,24,ncs Q),(gb,24,ncs B),(ga,24,ncs A)]) rfl (fun _ h=>⟨h.get 1 rfl,h.get 0 rfl⟩) fun w HM=>?_
    refine Us (i:=4) (d:=6) (x:=.const (.int .i64 0)) (v:=.int .i64 0) F (⟨HM.get 1 rfl,HM.get 0 rfl⟩) (by kernel_rfl) (by rfl) (by rfl) rfl fun a F=>?_
    refine Ks (by kernel_rfl) ?_ _
    refine Kgq ?_
    refine wp_ret ?_
    repeat (first | refine Jt ?_ | refine Jo ?_)
    exact Kp F HM (res_NNI F (s:=4) (t:=5) (u:=6) rfl rfl rfl rfl (HM.get 3 rfl) (HM.get 2 rfl))
   ·obtain ⟨j,rfl⟩:∃ j,i=j+1:=⟨i-1,by omega⟩
    have hj:j<256:=by omega
    rw [show (((j+1:Nat):Int)-1)=(j:Nat) by omega] at F FS
    have hr256:rr<2^256:=by omega
    obtain ⟨S,c,hS,hc,he,_⟩:=Jfo rr rr hr256 hr256
    have AD:=Jdw rr rr S c hr256 hr256 hS hc he
    obtain ⟨z,hz⟩:∃ z,z=A/2^j%2:=⟨_,rfl⟩
    have hz1:z≤1:=by omega
    have BT:=Jgc A hA (j:Int)
    rw [show bt A (j:Int)=z by unfold bt;rw [if_neg (by omega),Int.toNat_natCast];exact hz.symm] at BT
    have ev:S%2=0:=by omega
    obtain ⟨w0_,w1,w2,w3⟩:=even_word S z hS ev hz1
    obtain ⟨U,hU⟩:∃ U,U=S+z:=⟨_,rfl⟩
    rw [← hU] at w0_ w1 w2 w3
    have hU256:U<2^256:=by omega
    have hsame:∀ n,n≠0→wd U n=wd S n:=fun n hn=>by
     rcases Nat.lt_or_ge n 4 with h | h
     ·match n,h with
      | 0,_=>exact absurd rfl hn
      | 1,_=>exact w1
      | 2,_=>exact w2
      | 3,_=>exact w3
     ·unfold wd
      have hp:2^256≤18446744073709551616^n:=by rw [show (2:Nat)^256=18446744073709551616^4 from rfl];exact Nat.pow_le_pow_right (by decide) h
      rw [Nat.div_eq_of_lt (Nat.lt_of_lt_of_le hU256 hp),Nat.div_eq_of_lt (Nat.lt_of_lt_of_le hS hp)]
    have hu0:wd S 0+z=wd U 0:=w0_.symm
    have hul:=Ue U 0
    have hA2:A/2^j=2*(A/2^(j+1))+z:=by rw [hz];exact Jem A j
    have hA3:A/2^j=2*(Q*B)+(U+2^256*c):=by rw [hA2,hE];omega
    have htot:2*rr+z=U+2^256*c:=by omega
    obtain ⟨X1,hX1⟩:∃ X,X=Q*2^(j+1):=⟨_,rfl⟩
    rw [← hX1] at HM
    clear w1 w2 w3 ev hz hE hA2 he hU hS hc hi0 hi w0_
    refine Kgr ?_
    refine lxv (.int .i64 (j:Nat)) F (Jb (F.ev rfl)) fun a F=>?_
    refine lxv (.bool true) F (Jz (u:=.int .i64 (j:Nat)) (v:=.int .i64 0) (fun ρ hx hy=>by simp only [execOp,hx,hy];simp [go_sem] <;> omega) (F.ev rfl) rfl) fun a F=>?_
    refine Jc ?_
    refine Kgq ?_
    refine wp_cond_true (F.ev rfl) ?_
    refine Kgr ?_
    refine lxv (num rr) F (Jp (F.ev rfl) (HM.get 0 rfl)) fun a F=>?_
    refine lxv (num rr) F (Jp (F.ev rfl) (HM.get 0 rfl)) fun a F=>?_
    refine Jj F (Ja rfl _) rfl (by rfl) (Jh Tryz.func182 (by kernel_rfl) (by rfl) (.cons (F.ev rfl) (.cons (F.ev rfl) .nil)) _) (AD _) fun a w z F=>?_
    replace HM:=HM.on z
    clear z
    refine lxv (.tuple #[num S,.int .u64 (c:Nat)]) F (Jb (F.ev rfl)) fun a F=>?_
    refine lxv (num S) F (Jk (F.ev rfl) rfl) fun a F=>?_
    refine lxv (.int .u64 (c:Nat)) F (Jk (F.ev rfl) rfl) fun a F=>?_
    refine Jn F HM (Ja rfl _) rfl (by rfl) (Jw) fun a w gx F HM=>?_
    refine Jv F HM (Ja rfl _) rfl (k:=0) rfl (Jq (F.ev rfl) (F.ev rfl) (HM.get 0 rfl)) (M2:=[(gx,24,ncs S),(gs,24,ncs rr),(gu,24,ncs X1),(gr,24,ncs 0),(gq,24,ncs 0),(gb,24,ncs B),(ga,24,ncs A)]) rfl fun w HM=>?_
    refine lxv (.int .u64 (c:Nat)) F (Je (F.ev rfl)) fun a F=>?_
    refine Jc ?_
    refine Kgq ?_
    try simp only [List.append_eq,List.cons_append,List.nil_append]
    refine Jab [⟨0,45,[],.val (.pointer (some ⟨gx,0,none⟩)),true⟩,
   ⟨1,46,[0],.val (.int .u64 (wd S 0)),false⟩,
   ⟨2,47,[],.val (num A),false⟩,
   ⟨3,48,[],.val (.int .i64 (j:Nat)),true⟩,
   ⟨6,51,[],.val (.pointer (some ⟨gx,0,none⟩)),true⟩,
   ⟨4,49,[2,3],.val (.int .u64 (z:Nat)),false⟩,
   ⟨5,50,[1,5],.val (.int .u64 (wd U 0)),true⟩] 1 F HM (by kernel_rfl) (by rfl) (by rfl) ?_ ?_ ?_ ?_ ?_ ?_ ?_
    ·kernel_rfl
    ·exact of_decide_eq_true (by kernel_rfl)
    ·(repeat refine all_cons ⟨_,by rfl,by rfl⟩ ?_);exact all_nil
    ·kernel_rfl
    ·(repeat (refine all_cons ?_ ?_;rotate_left));exact all_nil
     all_goals try exact Jm _ (by rfl)
     ·exact Wt _ _ _ _ _ _ _ (by rfl) (by rfl) Jg (fun ρ w kn hs=>Vi _ _ _ _ _ _ _ ρ w gx 0 (by first | decide | assumption) (kn _ _ (F.old (by rfl) rfl)) (kn _ _ (Ji _)))
     ·exact Wt _ _ _ _ _ _ _ (by rfl) (by rfl) Jg (fun ρ w kn hs=>Jb (kn _ _ (F.old (by rfl) rfl)))
     ·exact Wt _ _ _ _ _ _ _ (by rfl) (by rfl) Jg (fun ρ w kn hs=>Vi _ _ _ _ _ _ _ ρ w gx 0 (by first | decide | assumption) (kn _ _ (F.old (by rfl) rfl)) (kn _ _ (Ji _)))
     ·exact crS (fun ρ w kn hs=>Jgs _ _ _ _ _ _ _ ρ w (wd S 0) z (wd U 0) hu0 hul (kn _ _ (kc 1 46)) (kn _ _ (kc 5 49)))
    ·(repeat (refine all_cons ?_ ?_;rotate_left));exact all_nil
     all_goals try exact sA
     ·exact fun _=>Um _ _ _ _ _ _ (by rfl) (by rfl) (fun ρ w kn hb=>Vw _ _ _ _ _ _ ρ w gx 0 _ (kn _ _ (kc 0 45)) (((HM.on hb).get 0 rfl).word (by first | decide | assumption)))
     ·exact fun _=>Um _ _ _ _ _ _ (by rfl) (by rfl) (fun ρ w kn hb=>Jp (kn _ _ (F.old (by rfl) rfl)) ((HM.on hb).get 6 rfl))
     ·exact fun _=>Jl _ 183 _ _ [.tmp 47,.tmp 48] _ _ _ _ _ _ _ (by rfl) Tryz.func183 (by kernel_rfl) (by rfl) (by rfl) (Jg) (.cons (kc 2 47) (.cons (kc 3 48) .nil)) (BT)
    intro gs rs a w hgs hrs F HM
    obtain rfl:=nl0 rs hrs
    clear hrs
    obtain rfl:=nl0 gs hgs
    clear hgs
    refine Kn (i:=7) HM (by kernel_rfl) (by rfl) rfl rfl (k:=0) rfl (Jgf (X:=S) (k:=0) (by decide) (F.ev rfl) (F.ev rfl) (HM.get 0 rfl)) (M2:=[(gx,24,ncs U),(gs,24,ncs rr),(gu,24,ncs X1),(gr,24,ncs 0),(gq,24,ncs 0),(gb,24,ncs B),(ga,24,ncs A)]) (by rw [show Jau (ncs S) 0 [.int .u64 (wd U 0)]=ncs U from Jbu S U 0 _ (by first | decide | assumption) rfl hsame];rfl) (fun _ _=>trivial) fun w HM=>?_
    refine Ks (by kernel_rfl) ?_ _
    refine Kgr ?_
    refine lxv (num U) F (Jp (F.ev rfl) (HM.get 0 rfl)) fun a F=>?_
    refine Jv F HM (Ja rfl _) rfl (k:=1) rfl (Jq (F.ev rfl) (F.ev rfl) (HM.get 1 rfl)) (M2:=[(gx,24,ncs U),(gs,24,ncs U),(gu,24,ncs X1),(gr,24,ncs 0),(gq,24,ncs 0),(gb,24,ncs B),(ga,24,ncs A)]) rfl fun w HM=>?_
    refine Jc ?_
    have h01:c=1∨c=0:=by omega
    by_cases hc1:c=1
    ·obtain ⟨D,l,hD,hl,he2,_⟩:=Jbt U B hU256 hB
     have SU:=Jan U B D l hU256 hB hD hl he2
     have hdl:D<B∧A/2^j=(2*Q+1)*B+D:=by
      have e:(2*Q+1)*B=2*(Q*B)+B:=by rw [Nat.add_mul,Nat.one_mul,Nat.mul_assoc]
      rw [e];constructor <;> omega
     refine Kgr ?_
     refine lxv (.int .u64 (c:Nat)) F (Jb (F.ev rfl)) fun a F=>?_
     refine lxv (.bool true) F (Jz (u:=.int .u64 (c:Nat)) (v:=.int .u64 1) (fun ρ hx hy=>by simp only [execOp,hx,hy];simp [go_sem] <;> omega) (F.ev rfl) rfl) fun a F=>?_
     refine lxv (.bool true) F (Jb (F.ev rfl)) fun a F=>?_
     refine lxp 55 true F fun a F=>?_
     refine lxp 55 true F fun a F=>?_
     refine lxp 55 true F fun a F=>?_
     refine lxp 55 true F fun a F=>?_
     refine lxv (.bool true) F (Kc (b:=true) (r:=.bool true) (F.ev rfl) rfl (F.ev rfl) rfl) fun a F=>?_
     refine Jc ?_
     refine Kgq ?_
     refine wp_cond_true (F.ev rfl) ?_
     refine Kgr ?_
     refine lxv (num U) F (Jp (F.ev rfl) (HM.get 1 rfl)) fun a F=>?_
     refine lxv (num B) F (Jp (F.ev rfl) (HM.get 5 rfl)) fun a F=>?_
     refine Jj F (Ja rfl _) rfl (by rfl) (Jh Tryz.func123 (by kernel_rfl) (by rfl) (.cons (F.ev rfl) (.cons (F.ev rfl) .nil)) _) (SU _) fun a w z F=>?_
     replace HM:=HM.on z
     clear z
     refine lxv (.tuple #[num D,.int .u64 (l:Nat)]) F (Jb (F.ev rfl)) fun a F=>?_
     refine lxv (num D) F (Jk (F.ev rfl) rfl) fun a F=>?_
     refine lxv (.int .u64 (l:Nat)) F (Jk (F.ev rfl) rfl) fun a F=>?_
     refine Jv F HM (Ja rfl _) rfl (k:=1) rfl (Jq (F.ev rfl) (F.ev rfl) (HM.get 1 rfl)) (M2:=[(gx,24,ncs U),(gs,24,ncs D),(gu,24,ncs X1),(gr,24,ncs 0),(gq,24,ncs 0),(gb,24,ncs B),(ga,24,ncs A)]) rfl fun w HM=>?_
     refine Jc ?_
     obtain ⟨k,hk⟩:∃ k,k=j/64:=⟨_,rfl⟩
     obtain ⟨jb,hjb⟩:∃ jb,jb=j%64:=⟨_,rfl⟩
     obtain ⟨tt,htt⟩:∃ tt,tt=2^jb:=⟨_,rfl⟩
     obtain ⟨Y2,hY2⟩:∃ Y,Y=(2*Q+1)*2^j:=⟨_,rfl⟩
     obtain ⟨ai,hsm⟩:=add_in Q j k jb hj hk hjb
     rw [← hX1,← hY2] at ai hsm
     rw [← htt] at ai
     have k4:k<4:=by omega
     have jb64:jb<64:=by omega
     have nl:=Ue Y2 k
     refine Kgq ?_
     try simp only [List.append_eq,List.cons_append,List.nil_append]
     refine Jab [⟨0,67,[],.val (.int .i64 (j:Nat)),true⟩,
   ⟨1,68,[0],.val (.int .i64 (k:Nat)),true⟩,
   ⟨2,69,[],.val (.int .i64 (j:Nat)),true⟩,
   ⟨3,70,[2],.val (.int .i64 (k:Nat)),true⟩,
   ⟨4,71,[3],.val (.pointer (some ⟨gu,k,none⟩)),true⟩,
   ⟨5,72,[4],.val (.int .u64 (wd X1 k)),false⟩,
   ⟨6,73,[],.val (.int .i64 (j:Nat)),true⟩,
   ⟨7,74,[6],.val (.int .i64 (jb:Nat)),true⟩,
   ⟨8,75,[7],.val (.int .u64 (tt:Nat)),true⟩,
   ⟨9,76,[5,8],.val (.int .u64 (wd Y2 k)),true⟩,
   ⟨10,77,[1],.val (.pointer (some ⟨gu,k,none⟩)),true⟩] 1 F HM (by kernel_rfl) (by rfl) (by rfl) ?_ ?_ ?_ ?_ ?_ ?_ ?_
     ·kernel_rfl
     ·exact of_decide_eq_true (by kernel_rfl)
     ·(repeat refine all_cons ⟨_,by rfl,by rfl⟩ ?_);exact all_nil
     ·kernel_rfl
     ·(repeat (refine all_cons ?_ ?_;rotate_left));exact all_nil
      ·exact Wt _ _ _ _ _ _ _ (by rfl) (by rfl) Jg (fun ρ w kn hs=>Jb (kn _ _ (F.old (by rfl) rfl)))
      ·exact crS (fun ρ w kn hs=>Jdx _ _ _ _ _ _ _ ρ w j k hk hj (kn _ _ (kc 0 67)) (kn _ _ (Ji _)))
      ·exact Wt _ _ _ _ _ _ _ (by rfl) (by rfl) Jg (fun ρ w kn hs=>Jb (kn _ _ (F.old (by rfl) rfl)))
      ·exact crS (fun ρ w kn hs=>Jdx _ _ _ _ _ _ _ ρ w j k hk hj (kn _ _ (kc 2 69)) (kn _ _ (Ji _)))
      ·exact Wt _ _ _ _ _ _ _ (by rfl) (by rfl) Jg (fun ρ w kn hs=>Vi _ _ _ _ _ _ _ ρ w gu k (by first | decide | assumption) (kn _ _ (F.old (by rfl) rfl)) (kn _ _ (kc 3 70)))
      ·exact Jm _ (by rfl)
      ·exact Wt _ _ _ _ _ _ _ (by rfl) (by rfl) Jg (fun ρ w kn hs=>Jb (kn _ _ (F.old (by rfl) rfl)))
      ·exact crS (fun ρ w kn hs=>remI_run _ _ _ _ _ _ _ ρ w j jb hjb hj (kn _ _ (kc 6 73)) (kn _ _ (Ji _)))
      ·exact crS (fun ρ w kn hs=>shlI_run _ _ _ _ _ _ _ ρ w jb tt jb64 htt (kn _ _ (Ji _)) (kn _ _ (kc 7 74)))
      ·exact crS (fun ρ w kn hs=>Jgs _ _ _ _ _ _ _ ρ w (wd X1 k) tt (wd Y2 k) ai nl (kn _ _ (kc 5 72)) (kn _ _ (kc 8 75)))
      ·exact Wt _ _ _ _ _ _ _ (by rfl) (by rfl) Jg (fun ρ w kn hs=>Vi _ _ _ _ _ _ _ ρ w gu k (by first | decide | assumption) (kn _ _ (F.old (by rfl) rfl)) (kn _ _ (kc 1 68)))
     ·(repeat (refine all_cons ?_ ?_;rotate_left));exact all_nil
      all_goals try exact sA
      ·exact fun _=>Um _ _ _ _ _ _ (by rfl) (by rfl) (fun ρ w kn hb=>Vw _ _ _ _ _ _ ρ w gu k _ (kn _ _ (kc 4 71)) (((HM.on hb).get 2 rfl).word (by first | decide | assumption)))
     intro gs rs a w hgs hrs F HM
     obtain rfl:=nl0 rs hrs
     clear hrs
     obtain rfl:=nl0 gs hgs
     clear hgs
     refine Kn (i:=11) HM (by kernel_rfl) (by rfl) rfl rfl (k:=2) rfl (Jgf (X:=X1) (k:=k) k4 (F.ev rfl) (F.ev rfl) (HM.get 2 rfl)) (M2:=[(gx,24,ncs U),(gs,24,ncs D),(gu,24,ncs Y2),(gr,24,ncs 0),(gq,24,ncs 0),(gb,24,ncs B),(ga,24,ncs A)]) (by rw [show Jau (ncs X1) k [.int .u64 (wd Y2 k)]=ncs Y2 from Jbu X1 Y2 k _ (by first | decide | assumption) rfl hsm];rfl) (fun _ _=>trivial) fun w HM=>?_
     refine Ks (by kernel_rfl) ?_ _
     have hw:IntKind.i64.wrap ((j:Int)-1)=(j:Int)-1:=by rw [IntKind.wrap_i64];omega
     refine Kgr ?_
     refine lxv (.int .i64 (j:Nat)) F (Jb (F.ev rfl)) fun a F=>?_
     refine lxv (.int .i64 ((j:Int)-1)) F (Jz (u:=.int .i64 (j:Nat)) (v:=.int .i64 1) (fun ρ hx hy=>by simp only [execOp,hx,hy];simp [go_sem,hw]) (F.ev rfl) rfl) fun a F=>?_
     refine lxv (.int .i64 ((j:Int)-1)) F (Je (F.ev rfl)) fun a F=>?_
     refine Jc ?_
     refine Ku ?_
     have HM:=HM.tail (A:=[(gx,24,ncs U)])
     rw [hY2] at HM
     refine ⟨⟨j,2*Q+1,D,by omega,hdl.1,hdl.2,F.sub [9,8,7,2,3,4,5,6],HM⟩,?_⟩
     show (intOf (a.tmps.getD 9 undef)+1).toNat<(intOf (aS.tmps.getD 9 undef)+1).toNat
     rw [F.get 9 _ rfl,FS.get 9 _ rfl]
     show ((j:Int)-1+1).toNat<((j:Int)+1).toNat
     omega
    ·have hc0:c=0:=by omega
     by_cases hge:B≤U
     ·obtain ⟨D,l,hD,hl,he2,_⟩:=Jbt U B hU256 hB
      have SU:=Jan U B D l hU256 hB hD hl he2
      have hdl:D<B∧A/2^j=(2*Q+1)*B+D:=by
       have e:(2*Q+1)*B=2*(Q*B)+B:=by rw [Nat.add_mul,Nat.one_mul,Nat.mul_assoc]
       rw [e];constructor <;> omega
      have CM:=Xh U B hU256 hB
      obtain ⟨cv,hcv⟩:∃ cv,cv=Jfn U B:=⟨_,rfl⟩
      rw [← hcv] at CM
      have cv0:0≤cv:=by rw [hcv];unfold Jfn;rw [if_neg (by omega)];split <;> omega
      refine Kgr ?_
      refine lxv (.int .u64 (c:Nat)) F (Jb (F.ev rfl)) fun a F=>?_
      refine lxv (.bool false) F (Jz (u:=.int .u64 (c:Nat)) (v:=.int .u64 1) (fun ρ hx hy=>by simp only [execOp,hx,hy];simp [go_sem] <;> omega) (F.ev rfl) rfl) fun a F=>?_
      refine lxv (.bool false) F (Jb (F.ev rfl)) fun a F=>?_
      refine lxw 55 false (num U) F (Jp (F.ev rfl) (HM.get 1 rfl)) fun a F=>?_
      refine lxw 55 false (num B) F (Jp (F.ev rfl) (HM.get 5 rfl)) fun a F=>?_
      refine Jj F (F.want (t:=55) (c:=false) rfl rfl rfl (by rfl) rfl) rfl (by rfl) (Jh Tryz.func119 (by kernel_rfl) (by rfl) (.cons (F.ev rfl) (.cons (F.ev rfl) .nil)) _) (CM _) fun a w z F=>?_
      replace HM:=HM.on z
      clear z
      refine lxw 55 false (.bool true) F (Jz (u:=.int .i64 cv) (v:=.int .i64 0) (fun ρ hx hy=>by simp only [execOp,hx,hy];simp [go_sem] <;> omega) (F.ev rfl) rfl) fun a F=>?_
      refine lxv (.bool true) F (Kc (b:=false) (r:=.bool true) (F.ev rfl) rfl (F.ev rfl) rfl) fun a F=>?_
      refine Jc ?_
      refine Kgq ?_
      refine wp_cond_true (F.ev rfl) ?_
      refine Kgr ?_
      refine lxv (num U) F (Jp (F.ev rfl) (HM.get 1 rfl)) fun a F=>?_
      refine lxv (num B) F (Jp (F.ev rfl) (HM.get 5 rfl)) fun a F=>?_
      refine Jj F (Ja rfl _) rfl (by rfl) (Jh Tryz.func123 (by kernel_rfl) (by rfl) (.cons (F.ev rfl) (.cons (F.ev rfl) .nil)) _) (SU _) fun a w z F=>?_
      replace HM:=HM.on z
      clear z
      refine lxv (.tuple #[num D,.int .u64 (l:Nat)]) F (Jb (F.ev rfl)) fun a F=>?_
      refine lxv (num D) F (Jk (F.ev rfl) rfl) fun a F=>?_
      refine lxv (.int .u64 (l:Nat)) F (Jk (F.ev rfl) rfl) fun a F=>?_
      refine Jv F HM (Ja rfl _) rfl (k:=1) rfl (Jq (F.ev rfl) (F.ev rfl) (HM.get 1 rfl)) (M2:=[(gx,24,ncs U),(gs,24,ncs D),(gu,24,ncs X1),(gr,24,ncs 0),(gq,24,ncs 0),(gb,24,ncs B),(ga,24,ncs A)]) rfl fun w HM=>?_
      refine Jc ?_
      obtain ⟨k,hk⟩:∃ k,k=j/64:=⟨_,rfl⟩
      obtain ⟨jb,hjb⟩:∃ jb,jb=j%64:=⟨_,rfl⟩
      obtain ⟨tt,htt⟩:∃ tt,tt=2^jb:=⟨_,rfl⟩
      obtain ⟨Y2,hY2⟩:∃ Y,Y=(2*Q+1)*2^j:=⟨_,rfl⟩
      obtain ⟨ai,hsm⟩:=add_in Q j k jb hj hk hjb
      rw [← hX1,← hY2] at ai hsm
      rw [← htt] at ai
      have k4:k<4:=by omega
      have jb64:jb<64:=by omega
      have nl:=Ue Y2 k
      refine Kgq ?_
      try simp only [List.append_eq,List.cons_append,List.nil_append]
      refine Jab [⟨0,67,[],.val (.int .i64 (j:Nat)),true⟩,
   ⟨1,68,[0],.val (.int .i64 (k:Nat)),true⟩,
   ⟨2,69,[],.val (.int .i64 (j:Nat)),true⟩,
   ⟨3,70,[2],.val (.int .i64 (k:Nat)),true⟩,
   ⟨4,71,[3],.val (.pointer (some ⟨gu,k,none⟩)),true⟩,
   ⟨5,72,[4],.val (.int .u64 (wd X1 k)),false⟩,
   ⟨6,73,[],.val (.int .i64 (j:Nat)),true⟩,
   ⟨7,74,[6],.val (.int .i64 (jb:Nat)),true⟩,
   ⟨8,75,[7],.val (.int .u64 (tt:Nat)),true⟩,
   ⟨9,76,[5,8],.val (.int .u64 (wd Y2 k)),true⟩,
   ⟨10,77,[1],.val (.pointer (some ⟨gu,k,none⟩)),true⟩] 1 F HM (by kernel_rfl) (by rfl) (by rfl) ?_ ?_ ?_ ?_ ?_ ?_ ?_
      ·kernel_rfl
      ·exact of_decide_eq_true (by kernel_rfl)
      ·(repeat refine all_cons ⟨_,by rfl,by rfl⟩ ?_);exact all_nil
      ·kernel_rfl
      ·(repeat (refine all_cons ?_ ?_;rotate_left));exact all_nil
       ·exact Wt _ _ _ _ _ _ _ (by rfl) (by rfl) Jg (fun ρ w kn hs=>Jb (kn _ _ (F.old (by rfl) rfl)))
       ·exact crS (fun ρ w kn hs=>Jdx _ _ _ _ _ _ _ ρ w j k hk hj (kn _ _ (kc 0 67)) (kn _ _ (Ji _)))
       ·exact Wt _ _ _ _ _ _ _ (by rfl) (by rfl) Jg (fun ρ w kn hs=>Jb (kn _ _ (F.old (by rfl) rfl)))
       ·exact crS (fun ρ w kn hs=>Jdx _ _ _ _ _ _ _ ρ w j k hk hj (kn _ _ (kc 2 69)) (kn _ _ (Ji _)))
       ·exact Wt _ _ _ _ _ _ _ (by rfl) (by rfl) Jg (fun ρ w kn hs=>Vi _ _ _ _ _ _ _ ρ w gu k (by first | decide | assumption) (kn _ _ (F.old (by rfl) rfl)) (kn _ _ (kc 3 70)))
       ·exact Jm _ (by rfl)
       ·exact Wt _ _ _ _ _ _ _ (by rfl) (by rfl) Jg (fun ρ w kn hs=>Jb (kn _ _ (F.old (by rfl) rfl)))
       ·exact crS (fun ρ w kn hs=>remI_run _ _ _ _ _ _ _ ρ w j jb hjb hj (kn _ _ (kc 6 73)) (kn _ _ (Ji _)))
       ·exact crS (fun ρ w kn hs=>shlI_run _ _ _ _ _ _ _ ρ w jb tt jb64 htt (kn _ _ (Ji _)) (kn _ _ (kc 7 74)))
       ·exact crS (fun ρ w kn hs=>Jgs _ _ _ _ _ _ _ ρ w (wd X1 k) tt (wd Y2 k) ai nl (kn _ _ (kc 5 72)) (kn _ _ (kc 8 75)))
       ·exact Wt _ _ _ _ _ _ _ (by rfl) (by rfl) Jg (fun ρ w kn hs=>Vi _ _ _ _ _ _ _ ρ w gu k (by first | decide | assumption) (kn _ _ (F.old (by rfl) rfl)) (kn _ _ (kc 1 68)))
      ·(repeat (refine all_cons ?_ ?_;rotate_left));exact all_nil
       all_goals try exact sA
       ·exact fun _=>Um _ _ _ _ _ _ (by rfl) (by rfl) (fun ρ w kn hb=>Vw _ _ _ _ _ _ ρ w gu k _ (kn _ _ (kc 4 71)) (((HM.on hb).get 2 rfl).word (by first | decide | assumption)))
      intro gs rs a w hgs hrs F HM
      obtain rfl:=nl0 rs hrs
      clear hrs
      obtain rfl:=nl0 gs hgs
      clear hgs
      refine Kn (i:=11) HM (by kernel_rfl) (by rfl) rfl rfl (k:=2) rfl (Jgf (X:=X1) (k:=k) k4 (F.ev rfl) (F.ev rfl) (HM.get 2 rfl)) (M2:=[(gx,24,ncs U),(gs,24,ncs D),(gu,24,ncs Y2),(gr,24,ncs 0),(gq,24,ncs 0),(gb,24,ncs B),(ga,24,ncs A)]) (by rw [show Jau (ncs X1) k [.int .u64 (wd Y2 k)]=ncs Y2 from Jbu X1 Y2 k _ (by first | decide | assumption) rfl hsm];rfl) (fun _ _=>trivial) fun w HM=>?_
      refine Ks (by kernel_rfl) ?_ _
      have hw:IntKind.i64.wrap ((j:Int)-1)=(j:Int)-1:=by rw [IntKind.wrap_i64];omega
      refine Kgr ?_
      refine lxv (.int .i64 (j:Nat)) F (Jb (F.ev rfl)) fun a F=>?_
      refine lxv (.int .i64 ((j:Int)-1)) F (Jz (u:=.int .i64 (j:Nat)) (v:=.int .i64 1) (fun ρ hx hy=>by simp only [execOp,hx,hy];simp [go_sem,hw]) (F.ev rfl) rfl) fun a F=>?_
      refine lxv (.int .i64 ((j:Int)-1)) F (Je (F.ev rfl)) fun a F=>?_
      refine Jc ?_
      refine Ku ?_
      have HM:=HM.tail (A:=[(gx,24,ncs U)])
      rw [hY2] at HM
      refine ⟨⟨j,2*Q+1,D,by omega,hdl.1,hdl.2,F.sub [9,8,7,2,3,4,5,6],HM⟩,?_⟩
      show (intOf (a.tmps.getD 9 undef)+1).toNat<(intOf (aS.tmps.getD 9 undef)+1).toNat
      rw [F.get 9 _ rfl,FS.get 9 _ rfl]
      show ((j:Int)-1+1).toNat<((j:Int)+1).toNat
      omega
     ·have hdl:U<B∧A/2^j=(2*Q+0)*B+U:=by
       have e:(2*Q+0)*B=2*(Q*B):=by rw [Nat.add_zero,Nat.mul_assoc]
       rw [e];constructor <;> omega
      have CM:=Xh U B hU256 hB
      obtain ⟨cv,hcv⟩:∃ cv,cv=Jfn U B:=⟨_,rfl⟩
      rw [← hcv] at CM
      have cv0:cv<0:=by rw [hcv,Jdl (by omega)];decide
      refine Kgr ?_
      refine lxv (.int .u64 (c:Nat)) F (Jb (F.ev rfl)) fun a F=>?_
      refine lxv (.bool false) F (Jz (u:=.int .u64 (c:Nat)) (v:=.int .u64 1) (fun ρ hx hy=>by simp only [execOp,hx,hy];simp [go_sem] <;> omega) (F.ev rfl) rfl) fun a F=>?_
      refine lxv (.bool false) F (Jb (F.ev rfl)) fun a F=>?_
      refine lxw 55 false (num U) F (Jp (F.ev rfl) (HM.get 1 rfl)) fun a F=>?_
      refine lxw 55 false (num B) F (Jp (F.ev rfl) (HM.get 5 rfl)) fun a F=>?_
      refine Jj F (F.want (t:=55) (c:=false) rfl rfl rfl (by rfl) rfl) rfl (by rfl) (Jh Tryz.func119 (by kernel_rfl) (by rfl) (.cons (F.ev rfl) (.cons (F.ev rfl) .nil)) _) (CM _) fun a w z F=>?_
      replace HM:=HM.on z
      clear z
      refine lxw 55 false (.bool false) F (Jz (u:=.int .i64 cv) (v:=.int .i64 0) (fun ρ hx hy=>by simp only [execOp,hx,hy];simp [go_sem] <;> omega) (F.ev rfl) rfl) fun a F=>?_
      refine lxv (.bool false) F (Kc (b:=false) (r:=.bool false) (F.ev rfl) rfl (F.ev rfl) rfl) fun a F=>?_
      refine Jc ?_
      refine Kgq ?_
      refine wp_cond_false (F.ev rfl) ?_
      have hX2:X1=(2*Q+0)*2^j:=by rw [hX1,Nat.pow_succ,Nat.add_zero,Nat.mul_comm 2 Q,Nat.mul_assoc,Nat.mul_comm 2 (2^j)]
      refine Kgq ?_
      have hw:IntKind.i64.wrap ((j:Int)-1)=(j:Int)-1:=by rw [IntKind.wrap_i64];omega
      refine Kgr ?_
      refine lxv (.int .i64 (j:Nat)) F (Jb (F.ev rfl)) fun a F=>?_
      refine lxv (.int .i64 ((j:Int)-1)) F (Jz (u:=.int .i64 (j:Nat)) (v:=.int .i64 1) (fun ρ hx hy=>by simp only [execOp,hx,hy];simp [go_sem,hw]) (F.ev rfl) rfl) fun a F=>?_
      refine lxv (.int .i64 ((j:Int)-1)) F (Je (F.ev rfl)) fun a F=>?_
      refine Jc ?_
      refine Ku ?_
      have HM:=HM.tail (A:=[(gx,24,ncs U)])
      rw [hX2] at HM
      refine ⟨⟨j,2*Q+0,U,by omega,hdl.1,hdl.2,F.sub [9,8,7,2,3,4,5,6],HM⟩,?_⟩
      show (intOf (a.tmps.getD 9 undef)+1).toNat<(intOf (aS.tmps.getD 9 undef)+1).toNat
      rw [F.get 9 _ rfl,FS.get 9 _ rfl]
      show ((j:Int)-1+1).toNat<((j:Int)+1).toNat
      omega
  ·by_cases ha:A<18446744073709551616
   ·rw [decide_eq_true ha] at WA
    rw [decide_eq_false (show ¬ B<18446744073709551616 from fun h=>hs ⟨ha,h⟩)] at WB
    refine Kgr ?_
    refine lxv (num A) F (Jp (F.ev rfl) (HM.get 3 rfl)) fun a F=>?_
    refine Jj F (Ja rfl _) rfl (by rfl) (Jh Tryz.func181 (by kernel_rfl) (by rfl) (.cons (F.ev rfl) .nil) _) (WA _) fun a w z F=>?_
    replace HM:=HM.on z
    clear z
    refine lxv (.bool true) F (Jb (F.ev rfl)) fun a F=>?_
    refine lxw 19 true (num B) F (Jp (F.ev rfl) (HM.get 2 rfl)) fun a F=>?_
    refine Jj F (F.want (t:=19) (c:=true) rfl rfl rfl (by rfl) rfl) rfl (by rfl) (Jh Tryz.func181 (by kernel_rfl) (by rfl) (.cons (F.ev rfl) .nil) _) (WB _) fun a w z F=>?_
    replace HM:=HM.on z
    clear z
    refine lxv (.bool false) F (Kc (b:=true) (r:=.bool false) (F.ev rfl) (F.ev rfl) rfl rfl) fun a F=>?_
    refine Jc ?_
    exact ⟨rfl,F.sub [22,2,3,4,5,6],HM⟩
   ·rw [decide_eq_false ha] at WA
    refine Kgr ?_
    refine lxv (num A) F (Jp (F.ev rfl) (HM.get 3 rfl)) fun a F=>?_
    refine Jj F (Ja rfl _) rfl (by rfl) (Jh Tryz.func181 (by kernel_rfl) (by rfl) (.cons (F.ev rfl) .nil) _) (WA _) fun a w z F=>?_
    replace HM:=HM.on z
    clear z
    refine lxv (.bool false) F (Jb (F.ev rfl)) fun a F=>?_
    refine lxp 19 false F fun a F=>?_
    refine lxp 19 false F fun a F=>?_
    refine lxv (.bool false) F (Kc (b:=false) (r:=.bool false) (F.ev rfl) (F.ev rfl) rfl rfl) fun a F=>?_
    refine Jc ?_
    exact ⟨rfl,F.sub [22,2,3,4,5,6],HM⟩
end Go.Proofs.YtmmgmljkmmgjdaaGreatDoor
