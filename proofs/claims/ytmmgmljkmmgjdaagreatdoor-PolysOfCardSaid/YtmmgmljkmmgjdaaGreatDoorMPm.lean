import Derived.Deep.Cut
import Derived.Test.YtmmgmljkmmgjdaaGreatDoorMSc2
import Derived.Test.YtmmgmljkmmgjdaaGreatDoorMTree
namespace Go.Proofs.YtmmgmljkmmgjdaaGreatDoor
set_option maxRecDepth 100000
set_option maxHeartbeats 8000000
open Go.RowKit
set_option linter.unusedSimpArgs false
set_option linter.unusedVariables false
attribute [local go_sem ↓] Go.wp_at_zero Go.wp_at_succ

section
variable {x y:Operand} {dst:Option Tmp} {ty:TypeId} {pos:String} {after:Array Edge} {guard:Option (Nat × Bool)} {ρ:Operand→Value} {w:World}
theorem wrapI {m:Nat} (h:m<4611686018427387904):IntKind.i64.wrap (m:Int)=(m:Int):=by
 have:=IntKind.wrap_i64 (m:Int)
 rw [this];omega
theorem o_subI {m k:Nat} (hk:k≤m) (hm:m<4611686018427387904) (hx:ρ x=.int .i64 (m:Nat)) (hy:ρ y=.int .i64 (k:Nat)):(execOp ρ ⟨dst,.binOp .sub 3 x y 3,ty,pos,after,guard⟩).run Tryz.prog w=.ok (.value (.int .i64 ((m-k:Nat):Int))) w:=by
 have h1:IntKind.i64.wrap ((m:Int)-(k:Int))=((m-k:Nat):Int):=by rw [show (m:Int)-(k:Int)=((m-k:Nat):Int) by omega];exact wrapI (by omega)
 simp only [execOp,hx,hy]
 simp [go_sem,h1]
theorem Jah {m k:Nat} (hm:m+k<4611686018427387904) (hx:ρ x=.int .i64 (m:Nat)) (hy:ρ y=.int .i64 (k:Nat)):(execOp ρ ⟨dst,.binOp .add 3 x y 3,ty,pos,after,guard⟩).run Tryz.prog w=.ok (.value (.int .i64 ((m+k:Nat):Int))) w:=by
 have h1:IntKind.i64.wrap ((m:Int)+(k:Int))=(m:Int)+(k:Int):=by rw [show (m:Int)+(k:Int)=((m+k:Nat):Int) by omega];exact wrapI hm
 simp only [execOp,hx,hy]
 simp [go_sem,h1]
end
theorem amount_neg (n:Int) (u m:Nat)
  (hn:n<0)
  (hw1:IntKind.u64.wrap n=(u:Nat))
  (hw2:IntKind.u64.wrap (-(u:Int))=(m:Nat))
  (w:World):Calls Tryz.prog 171 #[.int .i64 n] w fun e w'=>e=.returned (.int .u64 (m:Nat))∧Below w.heap.size w w':=by
 refine Jx (args:=[.int .i64 n]) Tryz.func171 rfl Tryz.ntmps171 (by rfl) fun a F HM=>?_
 refine Kgr ?_
 refine lxv (.int .u64 0) F (Je rfl) fun a F=>?_
 refine Jc ?_
 refine Kgr ?_
 refine lxv (.int .i64 n) F (Jb (F.ev rfl)) fun a F=>?_
 refine lxv (.bool true) F (Jz (u:=.int .i64 n) (v:=.int .i64 0) (fun ρ hx hy=>by simp only [execOp,hx,hy];simp [go_sem];omega) (F.ev rfl) rfl) fun a F=>?_
 refine Jc ?_
 refine Kgq ?_
 refine wp_cond_true (F.ev rfl) ?_
 refine Kgr ?_
 refine lxv (.int .i64 n) F (Jb (F.ev rfl)) fun a F=>?_
 refine lxv (.int .u64 (u:Nat)) F (Jfe hw1 (F.ev rfl)) fun a F=>?_
 refine lxv (.int .u64 (m:Nat)) F (Jia hw2 (F.ev rfl)) fun a F=>?_
 refine lxv (.int .u64 (m:Nat)) F (Je (F.ev rfl)) fun a F=>?_
 refine Jc ?_
 refine Kgq ?_
 refine wp_ret ?_
 repeat (first | refine Jt ?_ | refine Jo ?_)
 exact Kp F HM (Ua F rfl (s:=2) rfl)

theorem amount_pos (n:Int) (u m:Nat)
  (hn:¬ n<0)
  (hw1:IntKind.u64.wrap n=(m:Nat))
  (w:World):Calls Tryz.prog 171 #[.int .i64 n] w fun e w'=>e=.returned (.int .u64 (m:Nat))∧Below w.heap.size w w':=by
 refine Jx (args:=[.int .i64 n]) Tryz.func171 rfl Tryz.ntmps171 (by rfl) fun a F HM=>?_
 refine Kgr ?_
 refine lxv (.int .u64 0) F (Je rfl) fun a F=>?_
 refine Jc ?_
 refine Kgr ?_
 refine lxv (.int .i64 n) F (Jb (F.ev rfl)) fun a F=>?_
 refine lxv (.bool false) F (Jz (u:=.int .i64 n) (v:=.int .i64 0) (fun ρ hx hy=>by simp only [execOp,hx,hy];simp [go_sem];omega) (F.ev rfl) rfl) fun a F=>?_
 refine Jc ?_
 refine Kgq ?_
 refine wp_cond_false (F.ev rfl) ?_
 refine Kgr ?_
 refine lxv (.int .i64 n) F (Jb (F.ev rfl)) fun a F=>?_
 refine lxv (.int .u64 (m:Nat)) F (Jfe hw1 (F.ev rfl)) fun a F=>?_
 refine lxv (.int .u64 (m:Nat)) F (Je (F.ev rfl)) fun a F=>?_
 refine Jc ?_
 refine Kgq ?_
 refine wp_ret ?_
 repeat (first | refine Jt ?_ | refine Jo ?_)
 exact Kp F HM (Ua F rfl (s:=2) rfl)

theorem amount_any (n:Int) (h1:-9223372036854775808≤n) (h2:n<9223372036854775808) (w:World):Calls Tryz.prog 171 #[.int .i64 n] w fun e w'=>e=.returned (.int .u64 (n.natAbs:Nat))∧Below w.heap.size w w':=by
 by_cases hn:n<0
 ·refine amount_neg n (n+18446744073709551616).toNat n.natAbs hn ?_ ?_ w
  ·rw [IntKind.wrap_u64];omega
  ·rw [IntKind.wrap_u64];omega
 ·refine amount_pos n 0 n.natAbs hn ?_ w
  rw [IntKind.wrap_u64];omega
theorem gather_w (P Q G H L b V1 V S gs gl go gg n0:Nat) (e1 e2:Int) (w0 w:World) (c1:∀ w,Calls Tryz.prog 160 #[grp P Q G H,num L,num L] w fun e w'=>e=.returned (.tuple #[num V1,.int .i64 e1])∧Below w.heap.size w w') (c0:∀ w,Calls Tryz.prog 114 #[.int .u64 (b:Nat)] w fun e w'=>e=.returned (num b)∧Below w.heap.size w w') (c2:∀ w,Calls Tryz.prog 160 #[grp P Q G H,num V1,num b] w fun e w'=>e=.returned (.tuple #[num V,.int .i64 e2])∧Below w.heap.size w w') (HM:Mem n0 w0 w [(gs,24,ncs S),(gl,24,ncs L),(go,24,ncs 0),(gg,26,gcs P Q G H)]) :
  Calls Tryz.prog 170 #[.int .u64 (b:Nat),.pointer (some ⟨gg,0,none⟩),.pointer (some ⟨gl,0,none⟩)] w fun e w2=>e=.returned (.tuple #[])∧Mem n0 w0 w2 [(gs,24,ncs S),(gl,24,ncs V),(go,24,ncs 0),(gg,26,gcs P Q G H)]:=by
 refine Uf (args:=[.int .u64 (b:Nat),.pointer (some ⟨gg,0,none⟩),.pointer (some ⟨gl,0,none⟩)]) HM Tryz.func170 rfl Tryz.ntmps170 (by rfl) fun a F HM=>?_
 refine Kgr ?_
 refine lxv (grp P Q G H) F (Js (F.ev rfl) (HM.get 3 rfl)) fun a F=>?_
 refine lxv (num L) F (Jp (F.ev rfl) (HM.get 1 rfl)) fun a F=>?_
 refine lxv (num L) F (Jp (F.ev rfl) (HM.get 1 rfl)) fun a F=>?_
 refine Jj F (Ja rfl _) rfl (by rfl) (Jh Tryz.func160 (by kernel_rfl) (by rfl) (.cons (F.ev rfl) (.cons (F.ev rfl) (.cons (F.ev rfl) .nil))) _) (c1 _) fun a w z F=>?_
 replace HM:=HM.on z
 clear z
 refine lxv (.tuple #[num V1,.int .i64 e1]) F (Jb (F.ev rfl)) fun a F=>?_
 refine lxv (num V1) F (Jk (F.ev rfl) rfl) fun a F=>?_
 refine lxv (.int .i64 e1) F (Jk (F.ev rfl) rfl) fun a F=>?_
 refine Jv F HM (Ja rfl _) rfl (k:=1) rfl (Jq (F.ev rfl) (F.ev rfl) (HM.get 1 rfl)) (M2:=[(gs,24,ncs S),(gl,24,ncs V1),(go,24,ncs 0),(gg,26,gcs P Q G H)]) rfl fun w HM=>?_
 refine Jc ?_
 refine Kgq ?_
 try simp only [List.append_eq,List.cons_append,List.nil_append]
 refine Jab [⟨0,12,[],.val (grp P Q G H),false⟩,
   ⟨1,13,[],.val (num V1),false⟩,
   ⟨2,14,[],.val (.int .u64 (b:Nat)),true⟩,
   ⟨3,15,[2],.val (num b),false⟩,
   ⟨4,16,[0,1,3],.val (.tuple #[num V,.int .i64 e2]),false⟩,
   ⟨5,11,[4],.val (.tuple #[num V,.int .i64 e2]),true⟩,
   ⟨6,17,[5],.val (num V),true⟩,
   ⟨7,18,[5],.val (.int .i64 e2),true⟩] 1 F HM (by kernel_rfl) (by rfl) (by rfl) ?_ ?_ ?_ ?_ ?_ ?_ ?_
 ·kernel_rfl
 ·exact of_decide_eq_true (by kernel_rfl)
 ·(repeat refine all_cons ⟨_,by rfl,by rfl⟩ ?_);exact all_nil
 ·kernel_rfl
 ·(repeat (refine all_cons ?_ ?_;rotate_left));exact all_nil
  all_goals try exact Jm _ (by rfl)
  ·exact Wt _ _ _ _ _ _ _ (by rfl) (by rfl) Jg (fun ρ w kn hs=>Jb (kn _ _ (F.old (by rfl) rfl)))
  ·exact crS (fun ρ w kn hs=>Jb (kn _ _ (kc 4 16)))
  ·exact crS (fun ρ w kn hs=>Jk (kn _ _ (kc 5 11)) rfl)
  ·exact crS (fun ρ w kn hs=>Jk (kn _ _ (kc 5 11)) rfl)
 ·(repeat (refine all_cons ?_ ?_;rotate_left));exact all_nil
  all_goals try exact sA
  ·exact fun _=>Um _ _ _ _ _ _ (by rfl) (by rfl) (fun ρ w kn hb=>Js (kn _ _ (F.old (by rfl) rfl)) ((HM.on hb).get 3 rfl))
  ·exact fun _=>Um _ _ _ _ _ _ (by rfl) (by rfl) (fun ρ w kn hb=>Jp (kn _ _ (F.old (by rfl) rfl)) ((HM.on hb).get 1 rfl))
  ·exact fun _=>Jl _ 114 _ _ [.tmp 14] _ _ _ _ _ _ _ (by rfl) Tryz.func114 (by kernel_rfl) (by rfl) (by rfl) (Jg) (.cons (kc 2 14) .nil) (c0)
  ·exact fun _=>Jl _ 160 _ _ [.tmp 12,.tmp 13,.tmp 15] _ _ _ _ _ _ _ (by rfl) Tryz.func160 (by kernel_rfl) (by rfl) (by rfl) (Jg) (.cons (kc 0 12) (.cons (kc 1 13) (.cons (kc 3 15) .nil))) (c2)
 intro gs rs a w hgs hrs F HM
 obtain rfl:=nl0 rs hrs
 clear hrs
 obtain rfl:=nl0 gs hgs
 clear hgs
 refine Kn (i:=8) HM (by kernel_rfl) (by rfl) rfl rfl (k:=1) rfl (Jq (F.ev rfl) (F.ev rfl) (HM.get 1 rfl)) (M2:=[(gs,24,ncs S),(gl,24,ncs V),(go,24,ncs 0),(gg,26,gcs P Q G H)]) rfl (fun _ _=>trivial) fun w HM=>?_
 refine Ks (by kernel_rfl) ?_ _
 refine Kgq ?_
 exact bodyPost_end (Vk rfl) F.defers ⟨rfl,HM⟩
theorem gather_any (P Q G H L b S gs gl go gg n0:Nat) (w0 w:World) (hQ:Q<2^256) (hb:b≤1) (hL:L<2^256) (hLQ:1<Q→L<Q) (HM:Mem n0 w0 w [(gs,24,ncs S),(gl,24,ncs L),(go,24,ncs 0),(gg,26,gcs P Q G H)]) :
  Calls Tryz.prog 170 #[.int .u64 (b:Nat),.pointer (some ⟨gg,0,none⟩),.pointer (some ⟨gl,0,none⟩)] w fun e w2=>e=.returned (.tuple #[])∧Mem n0 w0 w2 [(gs,24,ncs S),(gl,24,ncs (if 1<Q then ((L+L)%Q+b)%Q else 0)),(go,24,ncs 0),(gg,26,gcs P Q G H)]:=by
 by_cases h1:1<Q
 ·rw [if_pos h1]
  exact gather_w P Q G H L b ((L+L)%Q) _ S gs gl go gg n0 0 0 w0 w (Jds P Q G H L L hQ h1 (hLQ h1) (hLQ h1)) (fun w=>Xt b (by omega) w) (Jds P Q G H _ b hQ h1 (Nat.mod_lt _ (by omega)) (by omega)) HM
 ·rw [if_neg h1]
  exact gather_w P Q G H L b 0 0 S gs gl go gg n0 1 1 w0 w (Jhc P Q G H L L hQ hL hL (fun h=>h1 h.1)) (fun w=>Xt b (by omega) w) (Jhc P Q G H 0 b hQ (by decide) (by omega) (fun h=>h1 h.1)) HM
theorem bitLen64 {S:Nat} (h:S<18446744073709551616):Go.bitLen S≤64:=by
 rcases Nat.lt_or_ge 64 (Go.bitLen S) with hl | hl
 ·have h2:=(Go.bitLen_spec S).2
  have h3:(2:Nat)^64≤2^(Go.bitLen S-1):=Nat.pow_le_pow_right (by decide) (by omega)
  have h4:=h2 (fun h0=>by rw [h0] at hl;exact absurd hl (by simp [Go.bitLen]))
  omega
 ·exact hl
def Uq (Q:Nat) (n:Int):Nat:=if 1<Q then (n%(Q:Int)).toNat else 0
def Vt (Q S k:Nat):Nat:=if 1<Q then S/2^k%Q else 0
theorem Jgo {Q S k:Nat} (h:1<Q):Vt Q S k<Q:=by unfold Vt;rw [if_pos h];exact Nat.mod_lt _ (by omega)
theorem lefts_lt2 {Q S k:Nat} (hQ:Q<2^256):Vt Q S k<2^256:=by
 by_cases h:1<Q
 ·exact Nat.lt_trans (Jgo h) hQ
 ·unfold Vt;rw [if_neg h];decide
theorem bt_nat (S k:Nat):bt S (k:Int)=S/2^k%2:=by unfold bt;rw [if_neg (by omega),Int.toNat_natCast]
theorem lefts_step (Q S k:Nat):(if 1<Q then ((Vt Q S (k+1)+Vt Q S (k+1))%Q+bt S (k:Int))%Q else 0)=Vt Q S k:=by
 by_cases h:1<Q
 ·rw [if_pos h,bt_nat]
  unfold Vt
  rw [if_pos h,if_pos h,← Nat.add_mod,Nat.mod_add_mod]
  congr 1
  rw [Nat.pow_succ,← Nat.div_div_eq_div_mul]
  omega
 ·rw [if_neg h];unfold Vt;rw [if_neg h]
theorem neg_sof (Q S:Nat) (h:1<Q):((-(S:Int))%(Q:Int)).toNat=(Q-S%Q)%Q:=by
 have hd:=Nat.div_add_mod S Q
 have hr:=Nat.mod_lt S (show 0<Q by omega)
 by_cases h0:S%Q=0
 ·rw [h0,Nat.sub_zero,Nat.mod_self]
  have:(Q:Int)∣-(S:Int):=Int.dvd_neg.2 (Int.natCast_dvd_natCast.2 (Nat.dvd_of_mod_eq_zero h0))
  rw [Int.emod_eq_zero_of_dvd this];rfl
 ·generalize S%Q=r at *
  generalize S/Q=d at *
  have e:-(S:Int)=((Q-r:Nat):Int)+(Q:Int)*(-(d:Int)-1):=by
   rw [← hd,Int.natCast_sub (Nat.le_of_lt hr)];push_cast;rw [Int.mul_sub,Int.mul_neg,Int.mul_one];omega
  rw [e,Int.add_mul_emod_self_left,Nat.mod_eq_of_lt (by omega)]
  have:((Q-r:Nat):Int)%(Q:Int)=((Q-r:Nat):Int):=Int.emod_eq_of_lt (by omega) (by omega)
  rw [this,Int.toNat_natCast]
theorem sof_pos (Q:Nat) (n:Int) (hn:¬ n<0):Uq Q n=Vt Q n.natAbs 0:=by
 unfold Uq Vt
 split
 ·rw [Nat.pow_zero,Nat.div_one]
  obtain ⟨m,rfl⟩:∃ m:Nat,n=m:=⟨n.toNat,by omega⟩
  rfl
 ·rfl
theorem sof_neg (Q:Nat) (n:Int) (hn:n<0):Uq Q n=if 1<Q then (0+Q-Vt Q n.natAbs 0)%Q else 0:=by
 unfold Uq Vt
 split
 ·rename_i h
  rw [Nat.pow_zero,Nat.div_one,Nat.zero_add,← neg_sof Q _ h]
  congr 2;omega
 ·rfl
theorem sof_any (P Q G H:Nat) (n:Int) (hQ:Q<2^256) (hn1:-9223372036854775808≤n) (hn2:n<9223372036854775808) (w0:World):Calls Tryz.prog 112 #[grp P Q G H,.int .i64 n] w0 fun e w'=>e=.returned (num (Uq Q n))∧Below w0.heap.size w0 w':=by
 have hSl:n.natAbs<18446744073709551616:=by omega
 have cA:=amount_any n hn1 hn2
 obtain ⟨S,hS⟩:∃ S,S=n.natAbs:=⟨_,rfl⟩
 rw [← hS] at cA hSl
 have hS2:S<2^256:=Nat.lt_trans hSl (by decide)
 obtain ⟨m,hm⟩:∃ m,m=Go.bitLen S:=⟨_,rfl⟩
 have cB:=Jej S hS2
 rw [← hm] at cB
 have hSm:S<2^m:=by rw [hm];exact (Go.bitLen_spec S).1
 have hm64:m≤64:=by rw [hm];exact bitLen64 hSl
 refine Jx (args:=[grp P Q G H,.int .i64 n]) Tryz.func112 rfl Tryz.ntmps112 (by rfl) fun a F HM=>?_
 refine Kgr ?_
 refine Jn F HM (Ja rfl _) rfl (by rfl) (Km (F.ev rfl)) fun a w gg F HM=>?_
 refine Jn F HM (Ja rfl _) rfl (by rfl) (Jw) fun a w go F HM=>?_
 refine Jc ?_
 refine Kgr ?_
 refine Jn F HM (Ja rfl _) rfl (by rfl) (Jw) fun a w gl F HM=>?_
 refine Jc ?_
 refine Kgr ?_
 refine lxv (.func (.func 170) #[] #[.pointer (some ⟨gg,0,none⟩),.pointer (some ⟨gl,0,none⟩)]) F (o_mk2 (F.ev rfl) (F.ev rfl)) fun a F=>?_
 refine lxv (.func (.func 170) #[] #[.pointer (some ⟨gg,0,none⟩),.pointer (some ⟨gl,0,none⟩)]) F (Je (F.ev rfl)) fun a F=>?_
 refine Jc ?_
 refine Kgr ?_
 refine lxv (.int .i64 n) F (Jb (F.ev rfl)) fun a F=>?_
 refine Jj F (Ja rfl _) rfl (by rfl) (Jh Tryz.func171 (by kernel_rfl) (by rfl) (.cons (F.ev rfl) .nil) _) (cA _) fun a w z F=>?_
 replace HM:=HM.on z
 clear z
 refine Jj F (Ja rfl _) rfl (by rfl) (Jh Tryz.func114 (by kernel_rfl) (by rfl) (.cons (F.ev rfl) .nil) _) ((fun w=>Xt S hSl w) _) fun a w z F=>?_
 replace HM:=HM.on z
 clear z
 refine Jn F HM (Ja rfl _) rfl (by rfl) (Jw) fun a w gs F HM=>?_
 refine Jv F HM (Ja rfl _) rfl (k:=0) rfl (Jq (F.ev rfl) (F.ev rfl) (HM.get 0 rfl)) (M2:=[(gs,24,ncs S),(gl,24,ncs 0),(go,24,ncs 0),(gg,26,gcs P Q G H)]) rfl fun w HM=>?_
 refine Jc ?_
 refine Kgr ?_
 refine lxv (num S) F (Jp (F.ev rfl) (HM.get 0 rfl)) fun a F=>?_
 refine Jj F (Ja rfl _) rfl (by rfl) (Jh Tryz.func172 (by kernel_rfl) (by rfl) (.cons (F.ev rfl) .nil) _) (cB _) fun a w z F=>?_
 replace HM:=HM.on z
 clear z
 refine lxv (.int .i64 (m:Nat)) F (Je (F.ev rfl)) fun a F=>?_
 refine Jc ?_
 refine Kgr ?_
 refine lxv (.int .i64 (m:Nat)) F (Jb (F.ev rfl)) fun a F=>?_
 refine lxv (.int .i64 0) F (Jb rfl) fun a F=>?_
 refine Jc ?_
 refine Kgq ?_
 have hst:Vt Q S m=0:=by unfold Vt;rw [Nat.div_eq_of_lt hSm];simp
 refine wp_loop (fun a w=>∃ i:Nat,i≤m∧Fr a 39 [(17,.int .i64 (i:Nat)),(16,.int .i64 (m:Nat)),(6,.func (.func 170) #[] #[.pointer (some ⟨gg,0,none⟩),.pointer (some ⟨gl,0,none⟩)]),(7,.pointer (some ⟨gs,0,none⟩)),(8,.int .i64 (m:Nat)),(5,.pointer (some ⟨gl,0,none⟩)),(2,.pointer (some ⟨gg,0,none⟩)),(4,.pointer (some ⟨go,0,none⟩)),(1,.int .i64 n)] []∧Mem w0.heap.size w0 w [(gs,24,ncs S),(gl,24,ncs (Vt Q S (m-i))),(go,24,ncs 0),(gg,26,gcs P Q G H)])
  (fun a _=>m-(intOf (a.tmps.getD 17 undef)).toNat) ⟨0,Nat.zero_le _,F.sub [17,16,6,7,8,5,2,4,1],by rw [Nat.sub_zero,hst];exact HM⟩ ?_
 clear F HM hst
 rintro aS wS ⟨i,hi,FS,HM⟩
 have F:=FS
 by_cases hlt:i<m
 ·refine Kgr ?_
  refine lxv (.bool true) F (Jz (u:=.int .i64 (i:Nat)) (v:=.int .i64 (m:Nat)) (fun ρ hx hy=>by simp only [execOp,hx,hy];simp [go_sem];omega) (F.ev rfl) (F.ev rfl)) fun a F=>?_
  refine Jc ?_
  refine Kgq ?_
  refine wp_cond_true (F.ev rfl) ?_
  refine Kgr ?_
  refine lxv (.int .i64 (i:Nat)) F (Jb (F.ev rfl)) fun a F=>?_
  refine lxv (.int .i64 (i:Nat)) F (Je (F.ev rfl)) fun a F=>?_
  refine Jc ?_
  obtain ⟨k,hk⟩:∃ k,k=m-1-i:=⟨_,rfl⟩
  have hki:m-i=k+1:=by omega
  rw [hki] at HM
  have hb1:bt S (k:Int)≤1:=by rw [bt_nat];omega
  refine Kgr ?_
  refine lxv (.func (.func 170) #[] #[.pointer (some ⟨gg,0,none⟩),.pointer (some ⟨gl,0,none⟩)]) F (Jb (F.ev rfl)) fun a F=>?_
  refine lxv (num S) F (Jp (F.ev rfl) (HM.get 0 rfl)) fun a F=>?_
  refine lxv (.int .i64 (m:Nat)) F (Jb (F.ev rfl)) fun a F=>?_
  refine lxv (.int .i64 ((m-1:Nat):Int)) F (o_subI (m:=m) (k:=1) (by omega) (by omega) (F.ev rfl) rfl) fun a F=>?_
  refine lxv (.int .i64 (i:Nat)) F (Jb (F.ev rfl)) fun a F=>?_
  refine lxv (.int .i64 (k:Nat)) F (by rw [hk];exact o_subI (m:=m-1) (k:=i) (by omega) (by omega) (F.ev rfl) (F.ev rfl)) fun a F=>?_
  refine Jj F (Ja rfl _) rfl (by rfl) (Jh Tryz.func173 (by kernel_rfl) (by rfl) (.cons (F.ev rfl) (.cons (F.ev rfl) .nil)) _) ((fun w=>bit_any S hS2 (k:Int) w) _) fun a w z F=>?_
  replace HM:=HM.on z
  clear z
  refine Jj F (Ja rfl _) rfl (by rfl) (run_callVA Tryz.func170 (by kernel_rfl) (by rfl) (F.ev rfl) (.cons (F.ev rfl) .nil) _) (gather_any P Q G H (Vt Q S (k+1)) (bt S (k:Int)) S gs gl go gg _ _ _ hQ hb1 (lefts_lt2 hQ) (fun h=>Jgo h) HM) fun a w HM F=>?_
  refine Jc ?_
  rw [lefts_step] at HM
  refine Kgr ?_
  refine lxv (.int .i64 ((i+1:Nat):Int)) F (Jah (m:=i) (k:=1) (by omega) (F.ev rfl) rfl) fun a F=>?_
  refine lxv (.int .i64 ((i+1:Nat):Int)) F (Jb (F.ev rfl)) fun a F=>?_
  refine Jc ?_
  refine Ku ?_
  refine ⟨⟨i+1,by omega,F.sub [17,16,6,7,8,5,2,4,1],by rw [show m-(i+1)=k by omega];exact HM⟩,?_⟩
  show m-(intOf (a.tmps.getD 17 undef)).toNat<m-(intOf (aS.tmps.getD 17 undef)).toNat
  rw [F.get 17 _ rfl,FS.get 17 _ rfl]
  show m-((i+1:Nat):Int).toNat<m-((i:Nat):Int).toNat
  omega
 ·refine Kgr ?_
  refine lxv (.bool false) F (Jz (u:=.int .i64 (i:Nat)) (v:=.int .i64 (m:Nat)) (fun ρ hx hy=>by simp only [execOp,hx,hy];simp [go_sem];omega) (F.ev rfl) (F.ev rfl)) fun a F=>?_
  refine Jc ?_
  refine Kgq ?_
  refine wp_cond_false (F.ev rfl) ?_
  refine Kgq ?_
  refine wp_exit ?_
  repeat (first | refine Kk ?_ | refine Kd ?_)
  obtain rfl:i=m:=by omega
  clear FS hlt hi
  rw [Nat.sub_self] at HM
  by_cases hn:n<0
  ·refine Kgr ?_
   refine lxv (.int .i64 n) F (Jb (F.ev rfl)) fun a F=>?_
   refine lxv (.bool true) F (Jz (u:=.int .i64 n) (v:=.int .i64 0) (fun ρ hx hy=>by simp only [execOp,hx,hy];simp [go_sem];omega) (F.ev rfl) rfl) fun a F=>?_
   refine Jc ?_
   refine Kgq ?_
   refine wp_cond_true (F.ev rfl) ?_
   rw [sof_neg Q n hn,← hS]
   obtain ⟨V,er,hV,cS⟩:∃ (V:Nat) (er:Int),V=(if 1<Q then (0+Q-Vt Q S 0)%Q else 0)∧(∀ w,Calls Tryz.prog 100 #[grp P Q G H,num 0,num (Vt Q S 0)] w fun e w'=>e=.returned (.tuple #[num V,.int .i64 er])∧Below w.heap.size w w'):=by
    by_cases h1:1<Q
    ·exact ⟨_,0,by rw [if_pos h1],Jdq P Q G H 0 _ hQ h1 (by omega) (Jgo h1)⟩
    ·exact ⟨0,1,by rw [if_neg h1],ssub_no P Q G H 0 _ hQ (by decide) (lefts_lt2 hQ) (fun h=>h1 h.1)⟩
   rw [← hV]
   refine Kgr ?_
   refine lxv (grp P Q G H) F (Js (F.ev rfl) (HM.get 3 rfl)) fun a F=>?_
   refine lxv (num 0) F (Uc) fun a F=>?_
   refine lxv (num (Vt Q S 0)) F (Jp (F.ev rfl) (HM.get 1 rfl)) fun a F=>?_
   refine Jj F (Ja rfl _) rfl (by rfl) (Jh Tryz.func100 (by kernel_rfl) (by rfl) (.cons (F.ev rfl) (.cons (F.ev rfl) (.cons (F.ev rfl) .nil))) _) (cS _) fun a w z F=>?_
   replace HM:=HM.on z
   clear z
   refine lxv (.tuple #[num V,.int .i64 er]) F (Jb (F.ev rfl)) fun a F=>?_
   refine lxv (num V) F (Jk (F.ev rfl) rfl) fun a F=>?_
   refine lxv (.int .i64 er) F (Jk (F.ev rfl) rfl) fun a F=>?_
   refine Jv F HM (Ja rfl _) rfl (k:=1) rfl (Jq (F.ev rfl) (F.ev rfl) (HM.get 1 rfl)) (M2:=[(gs,24,ncs S),(gl,24,ncs V),(go,24,ncs 0),(gg,26,gcs P Q G H)]) rfl fun w HM=>?_
   refine Jc ?_
   refine Kgr ?_
   refine lxv (num V) F (Jp (F.ev rfl) (HM.get 1 rfl)) fun a F=>?_
   refine Jv F HM (Ja rfl _) rfl (k:=2) rfl (Jq (F.ev rfl) (F.ev rfl) (HM.get 2 rfl)) (M2:=[(gs,24,ncs S),(gl,24,ncs V),(go,24,ncs V),(gg,26,gcs P Q G H)]) rfl fun w HM=>?_
   refine Jc ?_
   refine Kgq ?_
   refine wp_ret ?_
   repeat (first | refine Jt ?_ | refine Jo ?_)
   exact Kp F HM (Jet F (s:=4) rfl rfl (HM.get 2 rfl))
  ·refine Kgr ?_
   refine lxv (.int .i64 n) F (Jb (F.ev rfl)) fun a F=>?_
   refine lxv (.bool false) F (Jz (u:=.int .i64 n) (v:=.int .i64 0) (fun ρ hx hy=>by simp only [execOp,hx,hy];simp [go_sem];omega) (F.ev rfl) rfl) fun a F=>?_
   refine Jc ?_
   refine Kgq ?_
   refine wp_cond_false (F.ev rfl) ?_
   rw [sof_pos Q n hn,← hS]
   refine Kgr ?_
   refine lxv (num (Vt Q S 0)) F (Jp (F.ev rfl) (HM.get 1 rfl)) fun a F=>?_
   refine Jv F HM (Ja rfl _) rfl (k:=2) rfl (Jq (F.ev rfl) (F.ev rfl) (HM.get 2 rfl)) (M2:=[(gs,24,ncs S),(gl,24,ncs (Vt Q S 0)),(go,24,ncs (Vt Q S 0)),(gg,26,gcs P Q G H)]) rfl fun w HM=>?_
   refine Jc ?_
   refine Kgq ?_
   refine wp_ret ?_
   repeat (first | refine Jt ?_ | refine Jo ?_)
   exact Kp F HM (Jet F (s:=4) rfl rfl (HM.get 2 rfl))
theorem Wo {Q:Nat} (h:1<Q) (n:Int):((Uq Q n:Nat):Int)=n%(Q:Int):=by
 unfold Uq;rw [if_pos h]
 exact Int.toNat_of_nonneg (Int.emod_nonneg _ (by omega))
theorem Wn {Q:Nat} (h:1<Q) (n:Int):Uq Q n<Q:=by
 have h1:=Wo h n
 have h2:=Int.emod_lt_of_pos n (show (0:Int)<Q by omega)
 omega
theorem Jhw {Q:Nat} (h:1<Q) {m:Nat} {n:Int} (e:((m:Nat):Int)%(Q:Int)=n%(Q:Int)):m%Q=Uq Q n:=by
 have:=Wo h n
 have h2:((m%Q:Nat):Int)=(m:Int)%(Q:Int):=rfl
 omega
theorem sof_add {Q:Nat} (h:1<Q) (m n:Int):(Uq Q m+Uq Q n)%Q=Uq Q (m+n):=by
 refine Jhw h ?_
 rw [Int.natCast_add,Wo h,Wo h,← Int.add_emod]
theorem Jep {Q:Nat} (h:1<Q) (m n:Int):(Uq Q m+Q-Uq Q n)%Q=Uq Q (m-n):=by
 refine Jhw h ?_
 have h1:=Wn h n
 rw [Int.natCast_sub (by omega),Int.natCast_add,Wo h,Wo h,Int.sub_emod,Int.add_emod_right,← Int.sub_emod,Int.emod_sub_emod,Int.sub_emod m,Int.emod_emod,← Int.sub_emod]
theorem Jfz {Q:Nat} (h:1<Q) (m n:Int):Uq Q m*Uq Q n%Q=Uq Q (m*n):=by
 refine Jhw h ?_
 rw [Int.natCast_mul,Wo h,Wo h,← Int.mul_emod]
theorem Jfy {Q:Nat} (h:1<Q):Uq Q 1=1:=by
 have:=Wo h 1
 rw [Int.emod_eq_of_lt (by omega) (by omega)] at this
 omega
theorem Jfx {Q:Nat} (h:1<Q):Uq Q 0=0:=by
 have:=Wo h 0
 rw [Int.zero_emod] at this
 omega
def Cg (Q:Nat) (a b:Int):Prop:=∃ k:Int,a=b+(Q:Int)*k
theorem Cg.refl (Q:Nat) (a:Int):Cg Q a a:=⟨0,by omega⟩
theorem Cg.symm {Q:Nat} {a b:Int}:Cg Q a b→Cg Q b a
 | ⟨k,h⟩=>⟨-k,by subst h;grind⟩
theorem Cg.trans {Q:Nat} {a b c:Int}:Cg Q a b→Cg Q b c→Cg Q a c
 | ⟨k,h⟩,⟨l,h'⟩=>⟨k+l,by subst h;subst h';grind⟩
theorem Cg.add {Q:Nat} {a b c d:Int}:Cg Q a b→Cg Q c d→Cg Q (a+c) (b+d)
 | ⟨k,h⟩,⟨l,h'⟩=>⟨k+l,by subst h;subst h';grind⟩
theorem Cg.sub {Q:Nat} {a b c d:Int}:Cg Q a b→Cg Q c d→Cg Q (a-c) (b-d)
 | ⟨k,h⟩,⟨l,h'⟩=>⟨k-l,by subst h;subst h';grind⟩
theorem Cg.mul {Q:Nat} {a b c d:Int}:Cg Q a b→Cg Q c d→Cg Q (a*c) (b*d)
 | ⟨k,h⟩,⟨l,h'⟩=>⟨b*l+k*d+(Q:Int)*k*l,by subst h;subst h';grind⟩
theorem Cg.mulL {Q:Nat} {c d:Int} (a:Int) (h:Cg Q c d):Cg Q (a*c) (a*d):=(Cg.refl Q a).mul h
theorem Cg.of_eq {Q:Nat} {a b:Int} (h:a=b):Cg Q a b:=by subst h;exact Cg.refl _ _
theorem Cg.emod (Q:Nat) (a:Int):Cg Q (a%(Q:Int)) a:=⟨-(a/(Q:Int)),by have:=Int.emod_add_mul_ediv a (Q:Int);grind⟩
theorem Cg.mod_eq {Q:Nat} {a b:Int}:Cg Q a b→a%(Q:Int)=b%(Q:Int)
 | ⟨k,h⟩=>by subst h;rw [Int.add_mul_emod_self_left]
theorem Cg.eq {Q:Nat} {a b:Nat} (ha:a<Q) (hb:b<Q) (h:Cg Q (a:Int) (b:Int)):a=b:=by
 have h1:=h.mod_eq
 rw [Int.emod_eq_of_lt (by omega) (by omega),Int.emod_eq_of_lt (by omega) (by omega)] at h1
 omega
theorem Xs {Q:Nat} (h:1<Q) (z:Int):Cg Q ((Uq Q z:Nat):Int) z:=by rw [Wo h];exact Cg.emod Q z
theorem Vq {Q x:Nat} (hx:x<Q) (h:1<Q):Uq Q (x:Int)=x:=Cg.eq (Wn h _) hx (Xs h _)
def U (Q:Nat) (a:Int):Prop:=∃ b:Int,Cg Q (a*b) 1
theorem U.left {Q:Nat} {a b:Int}:U Q (a*b)→U Q a
 | ⟨c,h⟩=>⟨b*c,by rw [← Int.mul_assoc];exact h⟩
theorem U.right {Q:Nat} {a b:Int}:U Q (a*b)→U Q b
 | ⟨c,h⟩=>⟨a*c,by rw [show b*(a*c)=a*b*c by grind];exact h⟩
theorem U.mul {Q:Nat} {a b:Int}:U Q a→U Q b→U Q (a*b)
 | ⟨c,h⟩,⟨d,h'⟩=>⟨c*d,by rw [show a*b*(c*d)=a*c*(b*d) by grind];exact h.mul h'⟩
theorem U.one (Q:Nat):U Q 1:=⟨1,Cg.refl _ _⟩
theorem U.cg {Q:Nat} {a b:Int} (h:Cg Q a b):U Q a→U Q b
 | ⟨c,h'⟩=>⟨c,(h.symm.mul (Cg.refl Q c)).trans h'⟩
theorem U.cancel {Q:Nat} {a b d:Int} (h:Cg Q (a*d) (b*d)):U Q d→Cg Q a b
 | ⟨e,h'⟩=>by
  have h1:=h.mul (Cg.refl Q e)
  have h2:Cg Q (a*d*e) a:=by rw [Int.mul_assoc];exact (Cg.mulL a h').trans (Cg.of_eq (by omega))
  have h3:Cg Q (b*d*e) b:=by rw [Int.mul_assoc];exact (Cg.mulL b h').trans (Cg.of_eq (by omega))
  exact (h2.symm.trans h1).trans h3
theorem U.gcd {Q A:Nat} (h1:1<Q) (h:U Q (A:Int)):Nat.gcd A Q=1:=by
 obtain ⟨b,hb⟩:=h
 have h2:Cg Q ((A*Uq Q b:Nat):Int) 1:=by
  rw [Int.natCast_mul]
  exact (Cg.mulL _ (Xs h1 b)).trans hb
 refine inv_gcd A Q (Uq Q b) h1 ?_
 exact Cg.eq (Nat.mod_lt _ (by omega)) h1 (((Cg.of_eq (Int.natCast_emod _ _)).trans (Cg.emod Q _)).trans h2)
theorem U.of_gcd {Q A:Nat} (h1:1<Q) (h:Nat.gcd A Q=1):U Q (A:Int):=by
 obtain ⟨V,_,hV⟩:=Jfj A Q h1 h
 exact ⟨(V:Int),by rw [← Int.natCast_mul];exact ((Cg.emod Q _).symm.trans (Cg.of_eq (by rw [← Int.natCast_emod,hV];rfl)))⟩

def evZ:List Int→Int→Int
 | [],_=>0
 | c::p,x=>c+x*evZ p x
def zs (p:List Nat):List Int:=List.map (fun n:Nat=>(n:Int)) p
theorem Wg (p:List Nat):(zs p).length=p.length:=by simp [zs]
theorem Jel {p:List Nat} {i:Nat} (h:i<p.length):(zs p)[i]'(by rw [Wg];exact h)=(p[i]:Int):=by simp [zs]
theorem Jhi:∀ (p q:List Int) (x:Int),evZ (p++q) x=evZ p x+x^p.length*evZ q x
 | [],q,x=>by simp [evZ]
 | c::p,q,x=>by simp only [List.cons_append,evZ,Jhi p q x,List.length_cons,Int.pow_succ];grind
theorem Jef:∀ (p:List Int) (x:Int),(∀ c∈p,c=0)→evZ p x=0
 | [],_,_=>rfl
 | c::p,x,h=>by simp [evZ,Jef p x (fun d hd=>h d (List.mem_cons_of_mem _ hd)),h c List.mem_cons_self]
def Jim:List Int→List Int→List Int
 | [],_=>[]
 | p,[]=>p
 | c::p,d::q=>(c-d)::Jim p q
theorem subZ_len:∀ (p q:List Int),(Jim p q).length=p.length
 | [],_=>rfl
 | _::_,[]=>rfl
 | c::p,d::q=>by simp [Jim,subZ_len p q]
theorem subZ_ev:∀ (p q:List Int) (x:Int),p.length=q.length→evZ (Jim p q) x=evZ p x-evZ q x
 | [],[],x,_=>by simp [Jim,evZ]
 | [],d::q,x,h=>by simp at h
 | c::p,[],x,h=>by simp at h
 | c::p,d::q,x,h=>by simp only [Jim,evZ,subZ_ev p q x (by simpa using h)];grind
def syn (a:Int):List Int→List Int × Int
 | []=>([],0)
 | [c]=>([],c)
 | c::d::p=>((syn a (d::p)).2::(syn a (d::p)).1,c+a*(syn a (d::p)).2)
theorem Jhv (a:Int):∀ (p:List Int) (x:Int),evZ p x=(x-a)*evZ (syn a p).1 x+(syn a p).2
 | [],x=>by simp [syn,evZ]
 | [c],x=>by simp [syn,evZ]
 | c::d::p,x=>by
  have h:=Jhv a (d::p) x
  simp only [syn]
  rw [evZ,h,evZ]
  grind
theorem syn_len (a:Int):∀ (p:List Int),(syn a p).1.length=p.length-1
 | []=>rfl
 | [c]=>rfl
 | c::d::p=>by simp [syn,syn_len a (d::p)]
theorem syn_zero (Q:Nat) (a:Int):∀ (p:List Int),(∀ c∈(syn a p).1,Cg Q c 0)→Cg Q (syn a p).2 0→∀ c∈p,Cg Q c 0
 | [],_,_,c,h=>by cases h
 | [c],_,h,d,hd=>by rw [List.mem_singleton.1 hd];exact h
 | c::d::p,h1,h2,e,he=>by
  have hr:Cg Q (syn a (d::p)).2 0:=h1 _ (by simp [syn])
  have hc:Cg Q c 0:=by
   have h3:Cg Q (c+a*(syn a (d::p)).2-a*(syn a (d::p)).2) (0-a*0):=Cg.sub h2 (Cg.mulL a hr)
   exact ((Cg.of_eq (by omega)).trans h3).trans (Cg.of_eq (by omega))
  rcases List.mem_cons.1 he with rfl | he
  ·exact hc
  ·exact syn_zero Q a (d::p) (fun c hc=>h1 c (by simp only [syn];exact List.mem_cons_of_mem _ hc)) hr e he
theorem uniq0 (Q:Nat):∀ (xs:List Int) (p:List Int),p.length≤xs.length→xs.Pairwise (fun a b=>U Q (b-a))→(∀ x∈xs,Cg Q (evZ p x) 0)→∀ c∈p,Cg Q c 0
 | [],p,hl,_,_,c,hc=>by rw [List.length_eq_zero_iff.1 (show p.length=0 from Nat.le_zero.1 hl)] at hc;cases hc
 | a::xs,p,hl,hu,hv,c,hc=>by
  obtain ⟨hu1,hu2⟩:=List.pairwise_cons.1 hu
  have hr:Cg Q (syn a p).2 0:=by
   have h1:=hv a List.mem_cons_self
   rw [Jhv a p a] at h1
   exact (Cg.of_eq (by grind)).trans h1
  refine syn_zero Q a p (uniq0 Q xs (syn a p).1 (by rw [syn_len];simp at hl;omega) hu2 fun x hx=>?_) hr c hc
  have h1:=hv x (List.mem_cons_of_mem _ hx)
  rw [Jhv a p x] at h1
  have h2:Cg Q (evZ (syn a p).1 x*(x-a)) (0*(x-a)):=by
   have h3:=h1.sub hr
   exact ((Cg.of_eq (by grind)).trans h3).trans (Cg.of_eq (by omega))
  exact U.cancel h2 (hu1 x hx)
theorem uniqN {Q:Nat} {xs:List Int} {p q:List Nat} (hl:p.length=q.length) (hx:p.length≤xs.length) (hp:∀ c∈p,c<Q) (hq:∀ c∈q,c<Q) (hu:xs.Pairwise fun a b=>U Q (b-a)) (hv:∀ x∈xs,Cg Q (evZ (zs p) x) (evZ (zs q) x)):p=q:=by
 have h0:=uniq0 Q xs (Jim (zs p) (zs q)) (by rw [subZ_len,Wg];exact hx) hu fun x hx=>by
  rw [subZ_ev _ _ _ (by rw [Wg,Wg,hl])]
  exact ((hv x hx).sub (Cg.refl Q (evZ (zs q) x))).trans (Cg.of_eq (by omega))
 clear hv hx hu
 induction p generalizing q with
 | nil=>exact (List.length_eq_zero_iff.1 hl.symm).symm
 | cons c p ih=>
  cases q with
  | nil=>simp at hl
  | cons d q=>
   have h1:Cg Q ((c:Int)-(d:Int)) 0:=h0 _ (by simp [zs,Jim])
   have h2:c=d:=Cg.eq (hp c List.mem_cons_self) (hq d List.mem_cons_self) (by
    exact ((Cg.of_eq (by omega)).trans (h1.add (Cg.refl Q (d:Int)))).trans (Cg.of_eq (by omega)))
   subst h2
   rw [ih (by simpa using hl) (fun c hc=>hp c (List.mem_cons_of_mem _ hc)) (fun c hc=>hq c (List.mem_cons_of_mem _ hc)) fun e he=>h0 e (by simp only [zs,List.map_cons,Jim];exact List.mem_cons_of_mem _ he)]

def Jfp (Q:Nat):List Nat→List Nat→Nat→List Nat
 | [],_,_=>[]
 | p,[],_=>p
 | c::p,d::o,t=>(d*t%Q+c)%Q::Jfp Q p o t
theorem Jek (Q:Nat) (p:List Nat) (t:Nat):Jfp Q p [] t=p:=by cases p <;> rfl
theorem Xq (Q:Nat):∀ (p o:List Nat) (t:Nat),(Jfp Q p o t).length=p.length
 | [],_,_=>rfl
 | _::_,[],_=>rfl
 | c::p,d::o,t=>by simp [Jfp,Xq Q p o t]
theorem Jhm {Q:Nat} (h:1<Q):∀ (p o:List Nat) (t:Nat),(∀ c∈p,c<Q)→∀ c∈Jfp Q p o t,c<Q
 | [],_,_,_,c,hc=>by cases hc
 | e::p,[],_,hp,c,hc=>hp c hc
 | e::p,d::o,t,hp,c,hc=>by
  rcases List.mem_cons.1 hc with rfl | hc
  ·exact Nat.mod_lt _ (by omega)
  ·exact Jhm h p o t (fun c hc=>hp c (List.mem_cons_of_mem _ hc)) c hc
theorem Jhn {Q:Nat}:∀ (p o:List Nat) (t:Nat) (x:Int),o.length≤p.length→Cg Q (evZ (zs (Jfp Q p o t)) x) (evZ (zs p) x+(t:Int)*evZ (zs o) x)
 | [],o,t,x,hl=>by rw [List.length_eq_zero_iff.1 (Nat.le_zero.1 hl)];exact Cg.of_eq (by simp [Jfp,zs,evZ])
 | e::p,[],t,x,_=>Cg.of_eq (by simp [Jfp,zs,evZ])
 | c::p,d::o,t,x,hl=>by
  have h:=Jhn (Q:=Q) p o t x (by simpa using hl)
  have h1:Cg Q (((d*t%Q+c)%Q:Nat):Int) ((d:Int)*(t:Int)+(c:Int)):=by
   rw [Int.natCast_emod,Int.natCast_add,Int.natCast_emod,Int.natCast_mul]
   exact (Cg.emod Q _).trans ((Cg.emod Q _).add (Cg.refl Q _))
  simp only [Jfp,zs,List.map_cons,evZ] at h ⊢
  exact (h1.add (Cg.mulL x h)).trans (Cg.of_eq (by grind))
theorem addT_take_get (Q:Nat):∀ (p o:List Nat) (t i:Nat) (h:i<p.length),(Jfp Q p (o.take i) t)[i]'(by rw [Xq];exact h)=p[i]
 | [],_,_,_,h=>by simp at h
 | c::p,o,t,0,h=>by simp [Jek]
 | c::p,[],t,i+1,h=>by simp [Jek]
 | c::p,d::o,t,i+1,h=>by simp only [List.take_succ_cons,Jfp,List.getElem_cons_succ];exact addT_take_get Q p o t i (by simpa using h)
theorem addT_step (Q:Nat):∀ (p o:List Nat) (t i:Nat) (ho:i<o.length) (hp:i<p.length),(Jfp Q p (o.take i) t).set i ((o[i]*t%Q+p[i])%Q)=Jfp Q p (o.take (i+1)) t
 | [],_,_,_,_,h=>by simp at h
 | _::_,[],_,_,h,_=>by simp at h
 | c::p,d::o,t,0,_,_=>by simp [Jfp,Jek]
 | c::p,d::o,t,i+1,ho,hp=>by
  simp only [List.take_succ_cons,Jfp,List.set_cons_succ,List.getElem_cons_succ]
  rw [addT_step Q p o t i (by simpa using ho) (by simpa using hp)]
theorem addT_far (Q:Nat):∀ (p o:List Nat) (t i:Nat),o.length≤i→(Jfp Q p o t)[i]? = p[i]?
 | [],_,_,_,_=>rfl
 | _::_,[],_,_,_=>rfl
 | c::p,d::o,t,0,h=>by simp at h
 | c::p,d::o,t,i+1,h=>by simp only [Jfp,List.getElem?_cons_succ];exact addT_far Q p o t i (by simpa using h)
def prZ (a:Int):List Int→Int
 | []=>1
 | y::l=>(a-y)*prZ a l
theorem Jev (a:Int):∀ (l m:List Int),prZ a (l++m)=prZ a l*prZ a m
 | [],m=>by simp [prZ]
 | y::l,m=>by simp only [List.cons_append,prZ,Jev a l m];grind
theorem Jdy {Q:Nat} {a:Int}:∀ {l:List Int},U Q (prZ a l)→∀ y∈l,U Q (a-y)
 | [],_,y,h=>by cases h
 | z::l,h,y,hy=>by
  rcases List.mem_cons.1 hy with rfl | hy
  ·exact U.left h
  ·exact Jdy (U.right h) y hy
theorem Jeu {Q:Nat} {a:Int}:∀ {l:List Int},(∀ y∈l,U Q (a-y))→U Q (prZ a l)
 | [],_=>U.one Q
 | z::l,h=>(h z List.mem_cons_self).mul (Jeu fun y hy=>h y (List.mem_cons_of_mem _ hy))
theorem Jhd {a:Int}:∀ {l:List Int},a∈l→prZ a l=0
 | [],h=>by cases h
 | y::l,h=>by
  rcases List.mem_cons.1 h with rfl | h
  ·simp [prZ]
  ·simp [prZ,Jhd h]
def nz (Q:Nat) (p:List Nat) (x:Nat):List Nat:=Jfp Q (0::p) p (Uq Q (-(x:Int)))
theorem nz_len (Q:Nat) (p:List Nat) (x:Nat):(nz Q p x).length=p.length+1:=by simp [nz,Xq]
theorem nz_ev {Q:Nat} (h:1<Q) (p:List Nat) (x:Nat) (y:Int):Cg Q (evZ (zs (nz Q p x)) y) ((y-(x:Int))*evZ (zs p) y):=by
 refine (Jhn (0::p) p _ y (by simp)).trans ?_
 have h1:evZ (zs (0::p)) y=y*evZ (zs p) y:=by simp [zs,evZ]
 rw [h1]
 exact ((Cg.refl Q _).add ((Xs h (-(x:Int))).mul (Cg.refl Q (evZ (zs p) y)))).trans (Cg.of_eq (by grind))
theorem nz_lt {Q:Nat} (h:1<Q) {p:List Nat} (x:Nat) (hp:∀ c∈p,c<Q):∀ c∈nz Q p x,c<Q:=
 Jhm h _ _ _ fun c hc=>by
  rcases List.mem_cons.1 hc with rfl | hc
  ·omega
  ·exact hp c hc
structure Nw (Q:Nat) (xs vs:List Nat) (i:Nat) (p o:List Nat):Prop where
 lp:p.length=xs.length
 lo:o.length=i+1
 bp:∀ c∈p,c<Q
 bo:∀ c∈o,c<Q
 far:∀ j,i≤j→j<p.length→p[j]? = some 0
 ev:∀ k (h:k<xs.length),k<i→Cg Q (evZ (zs p) (xs[k]:Int)) ((vs.getD k 0:Nat):Int)
 no:∀ y,Cg Q (evZ (zs o) y) (prZ y ((zs xs).take i))
 un:((zs xs).take i).Pairwise fun a b=>U Q (b-a)
theorem Nw.start {Q:Nat} (h:1<Q) (xs vs:List Nat):Nw Q xs vs 0 (List.replicate xs.length 0) [1]:=by
 refine ⟨by simp,rfl,fun c hc=>?_,fun c hc=>?_,fun j _ hj=>?_,fun k _ h=>absurd h (Nat.not_lt_zero _),fun y=>?_,?_⟩
 ·rw [List.eq_of_mem_replicate hc];omega
 ·rw [List.mem_singleton.1 hc];exact h
 ·rw [List.getElem?_replicate,if_pos (by simpa using hj)]
 ·exact Cg.of_eq (by simp [zs,evZ,prZ])
 ·simp
theorem evZ_take {p:List Nat} {i:Nat} (h:∀ j,i≤j→j<p.length→p[j]? = some 0) (x:Int):evZ (zs (p.take i)) x=evZ (zs p) x:=by
 have e:zs p=zs (p.take i)++zs (p.drop i):=by unfold zs;rw [← List.map_append,List.take_append_drop]
 have e2:=Jef (zs (p.drop i)) x fun c hc=>by
  obtain ⟨n,hn,rfl⟩:=List.mem_map.1 hc
  obtain ⟨j,hj,rfl⟩:=List.getElem_of_mem hn
  rw [List.length_drop] at hj
  have:=h (i+j) (by omega) (by omega)
  rw [List.getElem_drop]
  rw [List.getElem?_eq_getElem (by omega)] at this
  rw [Option.some.inj this];rfl
 rw [e,Jhi,e2,Int.mul_zero,Int.add_zero]
theorem Nw.step {Q:Nat} (h:1<Q) {xs vs:List Nat} {i:Nat} {p o:List Nat} (N:Nw Q xs vs i p o) (hi:i<xs.length) {t:Nat}
  (hu:U Q (evZ (zs o) (xs[i]:Int))) (ht:Cg Q ((t:Int)*evZ (zs o) (xs[i]:Int)) (((vs.getD i 0:Nat):Int)-evZ (zs (p.take i)) (xs[i]:Int))):Nw Q xs vs (i+1) (Jfp Q p o t) (nz Q o xs[i]):=by
 have hol:o.length≤p.length:=by rw [N.lo,N.lp];omega
 have htk:(zs xs).take (i+1)=(zs xs).take i++[(xs[i]:Int)]:=by rw [List.take_succ_eq_append_getElem (by rw [Wg];exact hi),Jel hi]
 have hno:=N.no (xs[i]:Int)
 refine ⟨by rw [Xq,N.lp],by rw [nz_len,N.lo],Jhm h _ _ _ N.bp,nz_lt h _ N.bo,fun j h1 h2=>?_,fun k hk h1=>?_,fun y=>?_,?_⟩
 ·rw [Xq] at h2
  rw [addT_far Q p o t j (by rw [N.lo];omega)]
  exact N.far j (by omega) h2
 ·refine (Jhn p o t _ hol).trans ?_
  by_cases e:k=i
  ·subst e
   refine ((Cg.refl Q _).add ht).trans (Cg.of_eq ?_)
   rw [evZ_take N.far];omega
  ·have hk2:k<i:=by omega
   have h2:=N.ev k hk hk2
   have h3:Cg Q (evZ (zs o) (xs[k]:Int)) 0:=(N.no _).trans (Cg.of_eq (Jhd (by
    rw [List.mem_take_iff_getElem]
    exact ⟨k,by rw [Wg];omega,Jel hk⟩)))
   exact (h2.add (Cg.mulL _ h3)).trans (Cg.of_eq (by omega))
 ·refine (nz_ev h o xs[i] y).trans ?_
  rw [htk,Jev]
  exact (Cg.mulL _ (N.no y)).trans (Cg.of_eq (by simp only [prZ];grind))
 ·rw [htk,List.pairwise_append]
  refine ⟨N.un,by simp,fun a ha b hb=>?_⟩
  rw [List.mem_singleton.1 hb]
  exact Jdy (U.cg hno hu) a ha
theorem Nw.none {Q:Nat} {xs vs:List Nat} {i:Nat} {p o:List Nat} (N:Nw Q xs vs i p o) (hi:i<xs.length) (hu:¬ U Q (evZ (zs o) (xs[i]:Int))):¬ (zs xs).Pairwise fun a b=>U Q (b-a):=by
 intro h
 refine hu (U.cg (N.no _).symm (Jeu fun y hy=>?_))
 have e:zs xs=(zs xs).take i++(zs xs).drop i:=(List.take_append_drop _ _).symm
 rw [e,List.pairwise_append] at h
 refine h.2.2 y hy _ ?_
 rw [List.mem_drop_iff_getElem]
 exact ⟨0,by rw [Wg];omega,by rw [Jel (by omega)];simp⟩
end Go.Proofs.YtmmgmljkmmgjdaaGreatDoor
