import Derived.Deep.Cut
import Derived.Test.YtcbnmdkmfdjpiaaPSc2
import Derived.Test.YtcbnmdkmfdjpiaaPShort
namespace Go.Proofs.Ytcbnmdkmfdjpiaa
set_option maxRecDepth 100000
set_option maxHeartbeats 8000000
open Go.RowKit
set_option linter.unusedSimpArgs false
set_option linter.unusedVariables false
attribute [local go_sem ↓] Go.wp_at_zero Go.wp_at_succ

section
variable {x y:Operand} {dst:Option Tmp} {ty:TypeId} {pos:String} {after:Array Edge} {guard:Option (Nat × Bool)} {ρ:Operand→Value} {w:World}
theorem Jez {m:Nat} (h:m<4611686018427387904):IntKind.i64.wrap (m:Int)=(m:Int):=by
 have:=IntKind.wrap_i64 (m:Int)
 rw [this];omega
theorem Jfh {m k:Nat} (hk:k≤m) (hm:m<4611686018427387904) (hx:ρ x=.int .i64 (m:Nat)) (hy:ρ y=.int .i64 (k:Nat)):(execOp ρ ⟨dst,.binOp .sub 3 x y 3,ty,pos,after,guard⟩).run Try.prog w=.ok (.value (.int .i64 ((m-k:Nat):Int))) w:=by
 have h1:IntKind.i64.wrap ((m:Int)-(k:Int))=((m-k:Nat):Int):=by rw [show (m:Int)-(k:Int)=((m-k:Nat):Int) by omega];exact Jez (by omega)
 simp only [execOp,hx,hy]
 simp [go_sem,h1]
theorem o_addI {m k:Nat} (hm:m+k<4611686018427387904) (hx:ρ x=.int .i64 (m:Nat)) (hy:ρ y=.int .i64 (k:Nat)):(execOp ρ ⟨dst,.binOp .add 3 x y 3,ty,pos,after,guard⟩).run Try.prog w=.ok (.value (.int .i64 ((m+k:Nat):Int))) w:=by
 have h1:IntKind.i64.wrap ((m:Int)+(k:Int))=(m:Int)+(k:Int):=by rw [show (m:Int)+(k:Int)=((m+k:Nat):Int) by omega];exact Jez hm
 simp only [execOp,hx,hy]
 simp [go_sem,h1]
end
theorem amount_neg (n:Int) (u m:Nat)
  (hn:n<0)
  (hw1:IntKind.u64.wrap n=(u:Nat))
  (hw2:IntKind.u64.wrap (-(u:Int))=(m:Nat))
  (w:World):Calls Try.prog 24 #[.int .i64 n] w fun e w'=>e=.returned (.int .u64 (m:Nat))∧Below w.heap.size w w':=by
 refine Kc (args:=[.int .i64 n]) Try.func24 rfl Try.ntmps24 (by rfl) fun a F HM=>?_
 refine Kgr ?_
 refine lxv (.int .u64 0) F (Jg rfl) fun a F=>?_
 refine Jf ?_
 refine Kgr ?_
 refine lxv (.int .i64 n) F (Jc (F.ev rfl)) fun a F=>?_
 refine lxv (.bool true) F (Ua (u:=.int .i64 n) (v:=.int .i64 0) (fun ρ hx hy=>by simp only [execOp,hx,hy];simp [go_sem];omega) (F.ev rfl) rfl) fun a F=>?_
 refine Jf ?_
 refine Kgq ?_
 refine wp_cond_true (F.ev rfl) ?_
 refine Kgr ?_
 refine lxv (.int .i64 n) F (Jc (F.ev rfl)) fun a F=>?_
 refine lxv (.int .u64 (u:Nat)) F (o_convU hw1 (F.ev rfl)) fun a F=>?_
 refine lxv (.int .u64 (m:Nat)) F (o_negU hw2 (F.ev rfl)) fun a F=>?_
 refine lxv (.int .u64 (m:Nat)) F (Jg (F.ev rfl)) fun a F=>?_
 refine Jf ?_
 refine Kgq ?_
 refine wp_ret ?_
 repeat (first | refine Jv ?_ | refine Jp ?_)
 exact Kv F HM (Kt F rfl (s:=2) rfl)

theorem amount_pos (n:Int) (u m:Nat)
  (hn:¬ n<0)
  (hw1:IntKind.u64.wrap n=(m:Nat))
  (w:World):Calls Try.prog 24 #[.int .i64 n] w fun e w'=>e=.returned (.int .u64 (m:Nat))∧Below w.heap.size w w':=by
 refine Kc (args:=[.int .i64 n]) Try.func24 rfl Try.ntmps24 (by rfl) fun a F HM=>?_
 refine Kgr ?_
 refine lxv (.int .u64 0) F (Jg rfl) fun a F=>?_
 refine Jf ?_
 refine Kgr ?_
 refine lxv (.int .i64 n) F (Jc (F.ev rfl)) fun a F=>?_
 refine lxv (.bool false) F (Ua (u:=.int .i64 n) (v:=.int .i64 0) (fun ρ hx hy=>by simp only [execOp,hx,hy];simp [go_sem];omega) (F.ev rfl) rfl) fun a F=>?_
 refine Jf ?_
 refine Kgq ?_
 refine wp_cond_false (F.ev rfl) ?_
 refine Kgr ?_
 refine lxv (.int .i64 n) F (Jc (F.ev rfl)) fun a F=>?_
 refine lxv (.int .u64 (m:Nat)) F (o_convU hw1 (F.ev rfl)) fun a F=>?_
 refine lxv (.int .u64 (m:Nat)) F (Jg (F.ev rfl)) fun a F=>?_
 refine Jf ?_
 refine Kgq ?_
 refine wp_ret ?_
 repeat (first | refine Jv ?_ | refine Jp ?_)
 exact Kv F HM (Kt F rfl (s:=2) rfl)

theorem amount_any (n:Int) (h1:-9223372036854775808≤n) (h2:n<9223372036854775808) (w:World):Calls Try.prog 24 #[.int .i64 n] w fun e w'=>e=.returned (.int .u64 (n.natAbs:Nat))∧Below w.heap.size w w':=by
 by_cases hn:n<0
 ·refine amount_neg n (n+18446744073709551616).toNat n.natAbs hn ?_ ?_ w
  ·rw [IntKind.wrap_u64];omega
  ·rw [IntKind.wrap_u64];omega
 ·refine amount_pos n 0 n.natAbs hn ?_ w
  rw [IntKind.wrap_u64];omega
theorem gather_w (P Q G H L b V1 V S gs gl go gg n0:Nat) (e1 e2:Int) (w0 w:World) (c1:∀ w,Calls Try.prog 10 #[grp P Q G H,num L,num L] w fun e w'=>e=.returned (.tuple #[num V1,.int .i64 e1])∧Below w.heap.size w w') (c0:∀ w,Calls Try.prog 23 #[.int .u64 (b:Nat)] w fun e w'=>e=.returned (num b)∧Below w.heap.size w w') (c2:∀ w,Calls Try.prog 10 #[grp P Q G H,num V1,num b] w fun e w'=>e=.returned (.tuple #[num V,.int .i64 e2])∧Below w.heap.size w w') (HM:Mem n0 w0 w [(gs,24,ncs S),(gl,24,ncs L),(go,24,ncs 0),(gg,26,gcs P Q G H)]) :
  Calls Try.prog 22 #[.int .u64 (b:Nat),.pointer (some ⟨gg,0,none⟩),.pointer (some ⟨gl,0,none⟩)] w fun e w2=>e=.returned (.tuple #[])∧Mem n0 w0 w2 [(gs,24,ncs S),(gl,24,ncs V),(go,24,ncs 0),(gg,26,gcs P Q G H)]:=by
 refine Jat (args:=[.int .u64 (b:Nat),.pointer (some ⟨gg,0,none⟩),.pointer (some ⟨gl,0,none⟩)]) HM Try.func22 rfl Try.ntmps22 (by rfl) fun a F HM=>?_
 refine Kgr ?_
 refine lxv (grp P Q G H) F (Jy (F.ev rfl) (HM.get 3 rfl)) fun a F=>?_
 refine lxv (num L) F (Kg (F.ev rfl) (HM.get 1 rfl)) fun a F=>?_
 refine lxv (num L) F (Kg (F.ev rfl) (HM.get 1 rfl)) fun a F=>?_
 refine Jr F (Ja rfl _) rfl (by rfl) (Ji Try.func10 (by kernel_rfl) (by rfl) (.cons (F.ev rfl) (.cons (F.ev rfl) (.cons (F.ev rfl) .nil))) _) (c1 _) fun a w z F=>?_
 replace HM:=HM.on z
 clear z
 refine lxv (.tuple #[num V1,.int .i64 e1]) F (Jc (F.ev rfl)) fun a F=>?_
 refine lxv (num V1) F (Jk (F.ev rfl) rfl) fun a F=>?_
 refine lxv (.int .i64 e1) F (Jk (F.ev rfl) rfl) fun a F=>?_
 refine Ju F HM (Ja rfl _) rfl (k:=1) rfl (Ka (F.ev rfl) (F.ev rfl) (HM.get 1 rfl)) (M2:=[(gs,24,ncs S),(gl,24,ncs V1),(go,24,ncs 0),(gg,26,gcs P Q G H)]) rfl fun w HM=>?_
 refine Jf ?_
 refine Kgq ?_
 try simp only [List.append_eq,List.cons_append,List.nil_append]
 refine sx_drawn0 [⟨0,12,[],.val (grp P Q G H),false⟩,
   ⟨1,13,[],.val (num V1),false⟩,
   ⟨2,14,[],.val (.int .u64 (b:Nat)),true⟩,
   ⟨3,15,[2],.val (num b),false⟩,
   ⟨4,16,[0,1,3],.val (.tuple #[num V,.int .i64 e2]),false⟩,
   ⟨5,11,[4],.val (.tuple #[num V,.int .i64 e2]),true⟩,
   ⟨6,17,[5],.val (num V),true⟩,
   ⟨7,18,[5],.val (.int .i64 e2),true⟩] 1 F HM (by kernel_rfl) (by rfl) (by rfl) ?_ ?_ ?_ ?_ ?_ ?_ ?_
 ·kernel_rfl
 ·exact of_decide_eq_true (by kernel_rfl)
 ·(repeat refine all_cons ⟨_,by rfl,by rfl⟩ ?_);exact Jj
 ·kernel_rfl
 ·(repeat (refine all_cons ?_ ?_;rotate_left));exact Jj
  all_goals try exact Jq _ (by rfl)
  ·exact Ug _ _ _ _ _ _ _ (by rfl) (by rfl) Jh (fun ρ w kn hs=>Jc (kn _ _ (F.old (by rfl) rfl)))
  ·exact crS (fun ρ w kn hs=>Jc (kn _ _ (kc 4 16)))
  ·exact crS (fun ρ w kn hs=>Jk (kn _ _ (kc 5 11)) rfl)
  ·exact crS (fun ρ w kn hs=>Jk (kn _ _ (kc 5 11)) rfl)
 ·(repeat (refine all_cons ?_ ?_;rotate_left));exact Jj
  all_goals try exact sA
  ·exact fun _=>Jbf _ _ _ _ _ _ (by rfl) (by rfl) (fun ρ w kn hb=>Jy (kn _ _ (F.old (by rfl) rfl)) ((HM.on hb).get 3 rfl))
  ·exact fun _=>Jbf _ _ _ _ _ _ (by rfl) (by rfl) (fun ρ w kn hb=>Kg (kn _ _ (F.old (by rfl) rfl)) ((HM.on hb).get 1 rfl))
  ·exact fun _=>Jm _ 23 _ _ [.tmp 14] _ _ _ _ _ _ _ (by rfl) Try.func23 (by kernel_rfl) (by rfl) (by rfl) (Jh) (.cons (kc 2 14) .nil) (c0)
  ·exact fun _=>Jm _ 10 _ _ [.tmp 12,.tmp 13,.tmp 15] _ _ _ _ _ _ _ (by rfl) Try.func10 (by kernel_rfl) (by rfl) (by rfl) (Jh) (.cons (kc 0 12) (.cons (kc 1 13) (.cons (kc 3 15) .nil))) (c2)
 intro gs rs a w hgs hrs F HM
 obtain rfl:=nl0 rs hrs
 clear hrs
 obtain rfl:=nl0 gs hgs
 clear hgs
 refine Vh (i:=8) HM (by kernel_rfl) (by rfl) rfl rfl (k:=1) rfl (Ka (F.ev rfl) (F.ev rfl) (HM.get 1 rfl)) (M2:=[(gs,24,ncs S),(gl,24,ncs V),(go,24,ncs 0),(gg,26,gcs P Q G H)]) rfl (fun _ _=>trivial) fun w HM=>?_
 refine Ui (by kernel_rfl) ?_ _
 refine Kgq ?_
 exact bodyPost_end (Vt rfl) F.defers ⟨rfl,HM⟩
theorem gather_any (P Q G H L b S gs gl go gg n0:Nat) (w0 w:World) (hQ:Q<2^256) (hb:b≤1) (hL:L<2^256) (hLQ:1<Q→L<Q) (HM:Mem n0 w0 w [(gs,24,ncs S),(gl,24,ncs L),(go,24,ncs 0),(gg,26,gcs P Q G H)]) :
  Calls Try.prog 22 #[.int .u64 (b:Nat),.pointer (some ⟨gg,0,none⟩),.pointer (some ⟨gl,0,none⟩)] w fun e w2=>e=.returned (.tuple #[])∧Mem n0 w0 w2 [(gs,24,ncs S),(gl,24,ncs (if 1<Q then ((L+L)%Q+b)%Q else 0)),(go,24,ncs 0),(gg,26,gcs P Q G H)]:=by
 by_cases h1:1<Q
 ·rw [if_pos h1]
  exact gather_w P Q G H L b ((L+L)%Q) _ S gs gl go gg n0 0 0 w0 w (Jau P Q G H L L hQ h1 (hLQ h1) (hLQ h1)) (fun w=>Vd b (by omega) w) (Jau P Q G H _ b hQ h1 (Nat.mod_lt _ (by omega)) (by omega)) HM
 ·rw [if_neg h1]
  exact gather_w P Q G H L b 0 0 S gs gl go gg n0 1 1 w0 w (Jei P Q G H L L hQ hL hL (fun h=>h1 h.1)) (fun w=>Vd b (by omega) w) (Jei P Q G H 0 b hQ (by decide) (by omega) (fun h=>h1 h.1)) HM
theorem bitLen64 {S:Nat} (h:S<18446744073709551616):Go.bitLen S≤64:=by
 rcases Nat.lt_or_ge 64 (Go.bitLen S) with hl | hl
 ·have h2:=(Go.bitLen_spec S).2
  have h3:(2:Nat)^64≤2^(Go.bitLen S-1):=Nat.pow_le_pow_right (by decide) (by omega)
  have h4:=h2 (fun h0=>by rw [h0] at hl;exact absurd hl (by simp [Go.bitLen]))
  omega
 ·exact hl
def Ki (Q:Nat) (n:Int):Nat:=if 1<Q then (n%(Q:Int)).toNat else 0
def Wr (Q S k:Nat):Nat:=if 1<Q then S/2^k%Q else 0
theorem Jdl {Q S k:Nat} (h:1<Q):Wr Q S k<Q:=by unfold Wr;rw [if_pos h];exact Nat.mod_lt _ (by omega)
theorem lefts_lt2 {Q S k:Nat} (hQ:Q<2^256):Wr Q S k<2^256:=by
 by_cases h:1<Q
 ·exact Nat.lt_trans (Jdl h) hQ
 ·unfold Wr;rw [if_neg h];decide
theorem bt_nat (S k:Nat):bt S (k:Int)=S/2^k%2:=by unfold bt;rw [if_neg (by omega),Int.toNat_natCast]
theorem lefts_step (Q S k:Nat):(if 1<Q then ((Wr Q S (k+1)+Wr Q S (k+1))%Q+bt S (k:Int))%Q else 0)=Wr Q S k:=by
 by_cases h:1<Q
 ·rw [if_pos h,bt_nat]
  unfold Wr
  rw [if_pos h,if_pos h,← Nat.add_mod,Nat.mod_add_mod]
  congr 1
  rw [Nat.pow_succ,← Nat.div_div_eq_div_mul]
  omega
 ·rw [if_neg h];unfold Wr;rw [if_neg h]
theorem neg_sof (Q S:Nat) (h:1<Q):((-(S:Int))%(Q:Int)).toNat=(Q-S%Q)%Q:=by
 have hd:=Nat.div_add_mod S Q
 have hr:=Nat.mod_lt S (show 0<Q by omega)
 by_cases h0:S%Q=0
 ·rw [h0,Nat.sub_zero,Nat.mod_self]
  have:(Q:Int)∣-(S:Int):=Int.dvd_neg.2 (Int.natCast_dvd_natCast.2 (Nat.dvd_of_mod_eq_zero h0))
  rw [Int.emod_eq_zero_of_dvd this];rfl
 ·generalize S%Q=r at *
  generalize S/Q=d at *
  have e:-(S:Int)=((Q-r:Nat):Int)+(Q:Int)*(-(d:Int)-1):=by
   rw [← hd,Int.natCast_sub (Nat.le_of_lt hr)];push_cast;rw [Int.mul_sub,Int.mul_neg,Int.mul_one];omega
  rw [e,Int.add_mul_emod_self_left,Nat.mod_eq_of_lt (by omega)]
  have:((Q-r:Nat):Int)%(Q:Int)=((Q-r:Nat):Int):=Int.emod_eq_of_lt (by omega) (by omega)
  rw [this,Int.toNat_natCast]
theorem sof_pos (Q:Nat) (n:Int) (hn:¬ n<0):Ki Q n=Wr Q n.natAbs 0:=by
 unfold Ki Wr
 split
 ·rw [Nat.pow_zero,Nat.div_one]
  obtain ⟨m,rfl⟩:∃ m:Nat,n=m:=⟨n.toNat,by omega⟩
  rfl
 ·rfl
theorem sof_neg (Q:Nat) (n:Int) (hn:n<0):Ki Q n=if 1<Q then (0+Q-Wr Q n.natAbs 0)%Q else 0:=by
 unfold Ki Wr
 split
 ·rename_i h
  rw [Nat.pow_zero,Nat.div_one,Nat.zero_add,← neg_sof Q _ h]
  congr 2;omega
 ·rfl
theorem Jch (P Q G H:Nat) (n:Int) (hQ:Q<2^256) (hn1:-9223372036854775808≤n) (hn2:n<9223372036854775808) (w0:World):Calls Try.prog 11 #[grp P Q G H,.int .i64 n] w0 fun e w'=>e=.returned (num (Ki Q n))∧Below w0.heap.size w0 w':=by
 have hSl:n.natAbs<18446744073709551616:=by omega
 have cA:=amount_any n hn1 hn2
 obtain ⟨S,hS⟩:∃ S,S=n.natAbs:=⟨_,rfl⟩
 rw [← hS] at cA hSl
 have hS2:S<2^256:=Nat.lt_trans hSl (by decide)
 obtain ⟨m,hm⟩:∃ m,m=Go.bitLen S:=⟨_,rfl⟩
 have cB:=Uc S hS2
 rw [← hm] at cB
 have hSm:S<2^m:=by rw [hm];exact (Go.bitLen_spec S).1
 have hm64:m≤64:=by rw [hm];exact bitLen64 hSl
 refine Kc (args:=[grp P Q G H,.int .i64 n]) Try.func11 rfl Try.ntmps11 (by rfl) fun a F HM=>?_
 refine Kgr ?_
 refine Jn F HM (Ja rfl _) rfl (by rfl) (Kn (F.ev rfl)) fun a w gg F HM=>?_
 refine Jn F HM (Ja rfl _) rfl (by rfl) (Kd) fun a w go F HM=>?_
 refine Jf ?_
 refine Kgr ?_
 refine Jn F HM (Ja rfl _) rfl (by rfl) (Kd) fun a w gl F HM=>?_
 refine Jf ?_
 refine Kgr ?_
 refine lxv (.func (.func 22) #[] #[.pointer (some ⟨gg,0,none⟩),.pointer (some ⟨gl,0,none⟩)]) F (Jfz (F.ev rfl) (F.ev rfl)) fun a F=>?_
 refine lxv (.func (.func 22) #[] #[.pointer (some ⟨gg,0,none⟩),.pointer (some ⟨gl,0,none⟩)]) F (Jg (F.ev rfl)) fun a F=>?_
 refine Jf ?_
 refine Kgr ?_
 refine lxv (.int .i64 n) F (Jc (F.ev rfl)) fun a F=>?_
 refine Jr F (Ja rfl _) rfl (by rfl) (Ji Try.func24 (by kernel_rfl) (by rfl) (.cons (F.ev rfl) .nil) _) (cA _) fun a w z F=>?_
 replace HM:=HM.on z
 clear z
 refine Jr F (Ja rfl _) rfl (by rfl) (Ji Try.func23 (by kernel_rfl) (by rfl) (.cons (F.ev rfl) .nil) _) ((fun w=>Vd S hSl w) _) fun a w z F=>?_
 replace HM:=HM.on z
 clear z
 refine Jn F HM (Ja rfl _) rfl (by rfl) (Kd) fun a w gs F HM=>?_
 refine Ju F HM (Ja rfl _) rfl (k:=0) rfl (Ka (F.ev rfl) (F.ev rfl) (HM.get 0 rfl)) (M2:=[(gs,24,ncs S),(gl,24,ncs 0),(go,24,ncs 0),(gg,26,gcs P Q G H)]) rfl fun w HM=>?_
 refine Jf ?_
 refine Kgr ?_
 refine lxv (num S) F (Kg (F.ev rfl) (HM.get 0 rfl)) fun a F=>?_
 refine Jr F (Ja rfl _) rfl (by rfl) (Ji Try.func25 (by kernel_rfl) (by rfl) (.cons (F.ev rfl) .nil) _) (cB _) fun a w z F=>?_
 replace HM:=HM.on z
 clear z
 refine lxv (.int .i64 (m:Nat)) F (Jg (F.ev rfl)) fun a F=>?_
 refine Jf ?_
 refine Kgr ?_
 refine lxv (.int .i64 (m:Nat)) F (Jc (F.ev rfl)) fun a F=>?_
 refine lxv (.int .i64 0) F (Jc rfl) fun a F=>?_
 refine Jf ?_
 refine Kgq ?_
 have hst:Wr Q S m=0:=by unfold Wr;rw [Nat.div_eq_of_lt hSm];simp
 refine wp_loop (fun a w=>∃ i:Nat,i≤m∧Fr a 39 [(17,.int .i64 (i:Nat)),(16,.int .i64 (m:Nat)),(6,.func (.func 22) #[] #[.pointer (some ⟨gg,0,none⟩),.pointer (some ⟨gl,0,none⟩)]),(7,.pointer (some ⟨gs,0,none⟩)),(8,.int .i64 (m:Nat)),(5,.pointer (some ⟨gl,0,none⟩)),(2,.pointer (some ⟨gg,0,none⟩)),(4,.pointer (some ⟨go,0,none⟩)),(1,.int .i64 n)] []∧Mem w0.heap.size w0 w [(gs,24,ncs S),(gl,24,ncs (Wr Q S (m-i))),(go,24,ncs 0),(gg,26,gcs P Q G H)])
  (fun a _=>m-(intOf (a.tmps.getD 17 undef)).toNat) ⟨0,Nat.zero_le _,F.sub [17,16,6,7,8,5,2,4,1],by rw [Nat.sub_zero,hst];exact HM⟩ ?_
 clear F HM hst
 rintro aS wS ⟨i,hi,FS,HM⟩
 have F:=FS
 by_cases hlt:i<m
 ·refine Kgr ?_
  refine lxv (.bool true) F (Ua (u:=.int .i64 (i:Nat)) (v:=.int .i64 (m:Nat)) (fun ρ hx hy=>by simp only [execOp,hx,hy];simp [go_sem];omega) (F.ev rfl) (F.ev rfl)) fun a F=>?_
  refine Jf ?_
  refine Kgq ?_
  refine wp_cond_true (F.ev rfl) ?_
  refine Kgr ?_
  refine lxv (.int .i64 (i:Nat)) F (Jc (F.ev rfl)) fun a F=>?_
  refine lxv (.int .i64 (i:Nat)) F (Jg (F.ev rfl)) fun a F=>?_
  refine Jf ?_
  obtain ⟨k,hk⟩:∃ k,k=m-1-i:=⟨_,rfl⟩
  have hki:m-i=k+1:=by omega
  rw [hki] at HM
  have hb1:bt S (k:Int)≤1:=by rw [bt_nat];omega
  refine Kgr ?_
  refine lxv (.func (.func 22) #[] #[.pointer (some ⟨gg,0,none⟩),.pointer (some ⟨gl,0,none⟩)]) F (Jc (F.ev rfl)) fun a F=>?_
  refine lxv (num S) F (Kg (F.ev rfl) (HM.get 0 rfl)) fun a F=>?_
  refine lxv (.int .i64 (m:Nat)) F (Jc (F.ev rfl)) fun a F=>?_
  refine lxv (.int .i64 ((m-1:Nat):Int)) F (Jfh (m:=m) (k:=1) (by omega) (by omega) (F.ev rfl) rfl) fun a F=>?_
  refine lxv (.int .i64 (i:Nat)) F (Jc (F.ev rfl)) fun a F=>?_
  refine lxv (.int .i64 (k:Nat)) F (by rw [hk];exact Jfh (m:=m-1) (k:=i) (by omega) (by omega) (F.ev rfl) (F.ev rfl)) fun a F=>?_
  refine Jr F (Ja rfl _) rfl (by rfl) (Ji Try.func26 (by kernel_rfl) (by rfl) (.cons (F.ev rfl) (.cons (F.ev rfl) .nil)) _) ((fun w=>Jbr S hS2 (k:Int) w) _) fun a w z F=>?_
  replace HM:=HM.on z
  clear z
  refine Jr F (Ja rfl _) rfl (by rfl) (run_callVA Try.func22 (by kernel_rfl) (by rfl) (F.ev rfl) (.cons (F.ev rfl) .nil) _) (gather_any P Q G H (Wr Q S (k+1)) (bt S (k:Int)) S gs gl go gg _ _ _ hQ hb1 (lefts_lt2 hQ) (fun h=>Jdl h) HM) fun a w HM F=>?_
  refine Jf ?_
  rw [lefts_step] at HM
  refine Kgr ?_
  refine lxv (.int .i64 ((i+1:Nat):Int)) F (o_addI (m:=i) (k:=1) (by omega) (F.ev rfl) rfl) fun a F=>?_
  refine lxv (.int .i64 ((i+1:Nat):Int)) F (Jc (F.ev rfl)) fun a F=>?_
  refine Jf ?_
  refine Js ?_
  refine ⟨⟨i+1,by omega,F.sub [17,16,6,7,8,5,2,4,1],by rw [show m-(i+1)=k by omega];exact HM⟩,?_⟩
  show m-(intOf (a.tmps.getD 17 undef)).toNat<m-(intOf (aS.tmps.getD 17 undef)).toNat
  rw [F.get 17 _ rfl,FS.get 17 _ rfl]
  show m-((i+1:Nat):Int).toNat<m-((i:Nat):Int).toNat
  omega
 ·refine Kgr ?_
  refine lxv (.bool false) F (Ua (u:=.int .i64 (i:Nat)) (v:=.int .i64 (m:Nat)) (fun ρ hx hy=>by simp only [execOp,hx,hy];simp [go_sem];omega) (F.ev rfl) (F.ev rfl)) fun a F=>?_
  refine Jf ?_
  refine Kgq ?_
  refine wp_cond_false (F.ev rfl) ?_
  refine Kgq ?_
  refine wp_exit ?_
  repeat (first | refine Vu ?_ | refine Vf ?_)
  obtain rfl:i=m:=by omega
  clear FS hlt hi
  rw [Nat.sub_self] at HM
  by_cases hn:n<0
  ·refine Kgr ?_
   refine lxv (.int .i64 n) F (Jc (F.ev rfl)) fun a F=>?_
   refine lxv (.bool true) F (Ua (u:=.int .i64 n) (v:=.int .i64 0) (fun ρ hx hy=>by simp only [execOp,hx,hy];simp [go_sem];omega) (F.ev rfl) rfl) fun a F=>?_
   refine Jf ?_
   refine Kgq ?_
   refine wp_cond_true (F.ev rfl) ?_
   rw [sof_neg Q n hn,← hS]
   obtain ⟨V,er,hV,cS⟩:∃ (V:Nat) (er:Int),V=(if 1<Q then (0+Q-Wr Q S 0)%Q else 0)∧(∀ w,Calls Try.prog 27 #[grp P Q G H,num 0,num (Wr Q S 0)] w fun e w'=>e=.returned (.tuple #[num V,.int .i64 er])∧Below w.heap.size w w'):=by
    by_cases h1:1<Q
    ·exact ⟨_,0,by rw [if_pos h1],ssub_yes P Q G H 0 _ hQ h1 (by omega) (Jdl h1)⟩
    ·exact ⟨0,1,by rw [if_neg h1],ssub_no P Q G H 0 _ hQ (by decide) (lefts_lt2 hQ) (fun h=>h1 h.1)⟩
   rw [← hV]
   refine Kgr ?_
   refine lxv (grp P Q G H) F (Jy (F.ev rfl) (HM.get 3 rfl)) fun a F=>?_
   refine lxv (num 0) F (Ut) fun a F=>?_
   refine lxv (num (Wr Q S 0)) F (Kg (F.ev rfl) (HM.get 1 rfl)) fun a F=>?_
   refine Jr F (Ja rfl _) rfl (by rfl) (Ji Try.func27 (by kernel_rfl) (by rfl) (.cons (F.ev rfl) (.cons (F.ev rfl) (.cons (F.ev rfl) .nil))) _) (cS _) fun a w z F=>?_
   replace HM:=HM.on z
   clear z
   refine lxv (.tuple #[num V,.int .i64 er]) F (Jc (F.ev rfl)) fun a F=>?_
   refine lxv (num V) F (Jk (F.ev rfl) rfl) fun a F=>?_
   refine lxv (.int .i64 er) F (Jk (F.ev rfl) rfl) fun a F=>?_
   refine Ju F HM (Ja rfl _) rfl (k:=1) rfl (Ka (F.ev rfl) (F.ev rfl) (HM.get 1 rfl)) (M2:=[(gs,24,ncs S),(gl,24,ncs V),(go,24,ncs 0),(gg,26,gcs P Q G H)]) rfl fun w HM=>?_
   refine Jf ?_
   refine Kgr ?_
   refine lxv (num V) F (Kg (F.ev rfl) (HM.get 1 rfl)) fun a F=>?_
   refine Ju F HM (Ja rfl _) rfl (k:=2) rfl (Ka (F.ev rfl) (F.ev rfl) (HM.get 2 rfl)) (M2:=[(gs,24,ncs S),(gl,24,ncs V),(go,24,ncs V),(gg,26,gcs P Q G H)]) rfl fun w HM=>?_
   refine Jf ?_
   refine Kgq ?_
   refine wp_ret ?_
   repeat (first | refine Jv ?_ | refine Jp ?_)
   exact Kv F HM (Jfb F (s:=4) rfl rfl (HM.get 2 rfl))
  ·refine Kgr ?_
   refine lxv (.int .i64 n) F (Jc (F.ev rfl)) fun a F=>?_
   refine lxv (.bool false) F (Ua (u:=.int .i64 n) (v:=.int .i64 0) (fun ρ hx hy=>by simp only [execOp,hx,hy];simp [go_sem];omega) (F.ev rfl) rfl) fun a F=>?_
   refine Jf ?_
   refine Kgq ?_
   refine wp_cond_false (F.ev rfl) ?_
   rw [sof_pos Q n hn,← hS]
   refine Kgr ?_
   refine lxv (num (Wr Q S 0)) F (Kg (F.ev rfl) (HM.get 1 rfl)) fun a F=>?_
   refine Ju F HM (Ja rfl _) rfl (k:=2) rfl (Ka (F.ev rfl) (F.ev rfl) (HM.get 2 rfl)) (M2:=[(gs,24,ncs S),(gl,24,ncs (Wr Q S 0)),(go,24,ncs (Wr Q S 0)),(gg,26,gcs P Q G H)]) rfl fun w HM=>?_
   refine Jf ?_
   refine Kgq ?_
   refine wp_ret ?_
   repeat (first | refine Jv ?_ | refine Jp ?_)
   exact Kv F HM (Jfb F (s:=4) rfl rfl (HM.get 2 rfl))
end Go.Proofs.Ytcbnmdkmfdjpiaa
