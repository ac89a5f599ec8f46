import Derived.Deep.Cut
import Derived.Test.YtcbnmdkmfdjpiaaMDu13
import Derived.Test.YtcbnmdkmfdjpiaaMShort
namespace Go.Proofs.Ytcbnmdkmfdjpiaa
set_option maxRecDepth 100000
open Go.RowKit
set_option linter.unusedSimpArgs false
set_option linter.unusedVariables false
attribute [local go_sem ↓] Go.wp_at_zero Go.wp_at_succ

set_option maxRecDepth 100000 in
set_option maxHeartbeats 800000 in
theorem dlst_1 (P Q G H n capl:Nat) (pl:Option Addr) (ls:List Nat) (w0:World) (hP:P<2^256) (hQ:Q<2^256) (hG:G<2^256) (hH:H<2^256) (r:RN w0.heap.size w0 pl n capl ls) (h:7<n):Calls Try.prog 5 #[grp P Q G H,.slice pl n capl] w0 fun e w'=>e=.returned (.bool true)∧Below w0.heap.size w0 w':=by
 refine Ka (args:=[grp P Q G H,.slice pl n capl]) Try.func5 rfl Try.ntmps5 (by rfl) fun a F HM=>?_
 refine Kgr ?_
 refine Jn F HM (Ja rfl _) rfl (by rfl) (Kl (F.ev rfl)) fun a w gg F HM=>?_
 refine lxv (.bool false) F (Jg rfl) fun a F=>?_
 refine Jf ?_
 refine Kgr ?_
 refine Jp F (Ja rfl _) rfl (by rfl) (Jh Try.func6 (by kernel_rfl) (by rfl) .nil _) (Uk _) fun a w z F=>?_
 replace HM:=HM.on z
 clear z
 refine lxv (.bool false) F (Wk (b:=true) (r:=false) (F.ev rfl) rfl) fun a F=>?_
 refine lxv (.bool false) F (Jb (F.ev rfl)) fun a F=>?_
 refine lxw 16 false (.slice pl n capl) F (Jb (F.ev rfl)) fun a F=>?_
 refine lxw 16 false (.int .i64 (n:Nat)) F (Ui (F.ev rfl)) fun a F=>?_
 refine lxw 16 false (.bool true) F (Um (m:=(n:Nat)) (decide_eq_true (by omega)) (F.ev rfl) rfl) fun a F=>?_
 refine lxv (.bool true) F (Jt (b:=false) (r:=.bool true) (F.ev rfl) rfl (F.ev rfl) rfl) fun a F=>?_
 refine lxv (.bool true) F (Jb (F.ev rfl)) fun a F=>?_
 refine lxp 21 true F fun a F=>?_
 refine lxp 21 true F fun a F=>?_
 refine lxp 21 true F fun a F=>?_
 refine lxv (.bool true) F (Jt (b:=true) (r:=.bool true) (F.ev rfl) rfl (F.ev rfl) rfl) fun a F=>?_
 refine lxv (.bool true) F (Jb (F.ev rfl)) fun a F=>?_
 refine lxp 26 true F fun a F=>?_
 refine lxp 26 true F fun a F=>?_
 refine lxp 26 true F fun a F=>?_
 refine lxp 26 true F fun a F=>?_
 refine lxv (.bool true) F (Jt (b:=true) (r:=.bool true) (F.ev rfl) rfl (F.ev rfl) rfl) fun a F=>?_
 refine Jf ?_
 refine Kgq ?_
 refine wp_cond_true (F.ev rfl) ?_
 refine Kgr ?_
 refine Jp F (Ja rfl _) rfl (by rfl) (Jh Try.func6 (by kernel_rfl) (by rfl) .nil _) (Uk _) fun a w z F=>?_
 replace HM:=HM.on z
 clear z
 refine lxv (.bool true) F (Jg (F.ev rfl)) fun a F=>?_
 refine Jf ?_
 refine Kgq ?_
 refine wp_ret ?_
 repeat (first | refine Ju ?_ | refine Jo ?_)
 exact Kt F HM (Kq F rfl (s:=4) rfl)

set_option maxRecDepth 100000 in
set_option maxHeartbeats 800000 in
theorem dlst_2 (P Q G H n capl:Nat) (pl:Option Addr) (ls:List Nat) (w0:World) (hP:P<2^256) (hQ:Q<2^256) (hG:G<2^256) (hH:H<2^256) (r:RN w0.heap.size w0 pl n capl ls) (h:n=0):Calls Try.prog 5 #[grp P Q G H,.slice pl n capl] w0 fun e w'=>e=.returned (.bool true)∧Below w0.heap.size w0 w':=by
 refine Ka (args:=[grp P Q G H,.slice pl n capl]) Try.func5 rfl Try.ntmps5 (by rfl) fun a F HM=>?_
 refine Kgr ?_
 refine Jn F HM (Ja rfl _) rfl (by rfl) (Kl (F.ev rfl)) fun a w gg F HM=>?_
 refine lxv (.bool false) F (Jg rfl) fun a F=>?_
 refine Jf ?_
 refine Kgr ?_
 refine Jp F (Ja rfl _) rfl (by rfl) (Jh Try.func6 (by kernel_rfl) (by rfl) .nil _) (Uk _) fun a w z F=>?_
 replace HM:=HM.on z
 clear z
 refine lxv (.bool false) F (Wk (b:=true) (r:=false) (F.ev rfl) rfl) fun a F=>?_
 refine lxv (.bool false) F (Jb (F.ev rfl)) fun a F=>?_
 refine lxw 16 false (.slice pl n capl) F (Jb (F.ev rfl)) fun a F=>?_
 refine lxw 16 false (.int .i64 (n:Nat)) F (Ui (F.ev rfl)) fun a F=>?_
 refine lxw 16 false (.bool false) F (Um (m:=(n:Nat)) (decide_eq_false (by omega)) (F.ev rfl) rfl) fun a F=>?_
 refine lxv (.bool false) F (Jt (b:=false) (r:=.bool false) (F.ev rfl) rfl (F.ev rfl) rfl) fun a F=>?_
 refine lxv (.bool false) F (Jb (F.ev rfl)) fun a F=>?_
 refine lxw 21 false (.slice pl n capl) F (Jb (F.ev rfl)) fun a F=>?_
 refine lxw 21 false (.int .i64 (n:Nat)) F (Ui (F.ev rfl)) fun a F=>?_
 refine lxw 21 false (.bool true) F (Kh (u:=.int .i64 (n:Nat)) (v:=.int .i64 0) (fun ρ hx hy=>by simp only [execOp,hx,hy];simp [go_sem];omega) (F.ev rfl) rfl) fun a F=>?_
 refine lxv (.bool true) F (Jt (b:=false) (r:=.bool true) (F.ev rfl) rfl (F.ev rfl) rfl) fun a F=>?_
 refine lxv (.bool true) F (Jb (F.ev rfl)) fun a F=>?_
 refine lxp 26 true F fun a F=>?_
 refine lxp 26 true F fun a F=>?_
 refine lxp 26 true F fun a F=>?_
 refine lxp 26 true F fun a F=>?_
 refine lxv (.bool true) F (Jt (b:=true) (r:=.bool true) (F.ev rfl) rfl (F.ev rfl) rfl) fun a F=>?_
 refine Jf ?_
 refine Kgq ?_
 refine wp_cond_true (F.ev rfl) ?_
 refine Kgr ?_
 refine Jp F (Ja rfl _) rfl (by rfl) (Jh Try.func6 (by kernel_rfl) (by rfl) .nil _) (Uk _) fun a w z F=>?_
 replace HM:=HM.on z
 clear z
 refine lxv (.bool true) F (Jg (F.ev rfl)) fun a F=>?_
 refine Jf ?_
 refine Kgq ?_
 refine wp_ret ?_
 repeat (first | refine Ju ?_ | refine Jo ?_)
 exact Kt F HM (Kq F rfl (s:=4) rfl)

set_option maxRecDepth 100000 in
set_option maxHeartbeats 800000 in
theorem dlst_3 (P Q G H n capl:Nat) (pl:Option Addr) (ls:List Nat) (w0:World) (hP:P<2^256) (hQ:Q<2^256) (hG:G<2^256) (hH:H<2^256) (r:RN w0.heap.size w0 pl n capl ls) (h7:n≤7) (h0:0<n) (hf:fineB P Q G H ls=false):Calls Try.prog 5 #[grp P Q G H,.slice pl n capl] w0 fun e w'=>e=.returned (.bool true)∧Below w0.heap.size w0 w':=by
 refine Ka (args:=[grp P Q G H,.slice pl n capl]) Try.func5 rfl Try.ntmps5 (by rfl) fun a F HM=>?_
 refine Kgr ?_
 refine Jn F HM (Ja rfl _) rfl (by rfl) (Kl (F.ev rfl)) fun a w gg F HM=>?_
 refine lxv (.bool false) F (Jg rfl) fun a F=>?_
 refine Jf ?_
 refine Kgr ?_
 refine Jp F (Ja rfl _) rfl (by rfl) (Jh Try.func6 (by kernel_rfl) (by rfl) .nil _) (Uk _) fun a w z F=>?_
 replace HM:=HM.on z
 clear z
 refine lxv (.bool false) F (Wk (b:=true) (r:=false) (F.ev rfl) rfl) fun a F=>?_
 refine lxv (.bool false) F (Jb (F.ev rfl)) fun a F=>?_
 refine lxw 16 false (.slice pl n capl) F (Jb (F.ev rfl)) fun a F=>?_
 refine lxw 16 false (.int .i64 (n:Nat)) F (Ui (F.ev rfl)) fun a F=>?_
 refine lxw 16 false (.bool false) F (Um (m:=(n:Nat)) (decide_eq_false (by omega)) (F.ev rfl) rfl) fun a F=>?_
 refine lxv (.bool false) F (Jt (b:=false) (r:=.bool false) (F.ev rfl) rfl (F.ev rfl) rfl) fun a F=>?_
 refine lxv (.bool false) F (Jb (F.ev rfl)) fun a F=>?_
 refine lxw 21 false (.slice pl n capl) F (Jb (F.ev rfl)) fun a F=>?_
 refine lxw 21 false (.int .i64 (n:Nat)) F (Ui (F.ev rfl)) fun a F=>?_
 refine lxw 21 false (.bool false) F (Kh (u:=.int .i64 (n:Nat)) (v:=.int .i64 0) (fun ρ hx hy=>by simp only [execOp,hx,hy];simp [go_sem];omega) (F.ev rfl) rfl) fun a F=>?_
 refine lxv (.bool false) F (Jt (b:=false) (r:=.bool false) (F.ev rfl) rfl (F.ev rfl) rfl) fun a F=>?_
 refine lxv (.bool false) F (Jb (F.ev rfl)) fun a F=>?_
 refine lxw 26 false (grp P Q G H) F (Jr (F.ev rfl) (HM.get 0 rfl)) fun a F=>?_
 refine lxw 26 false (.slice pl n capl) F (Jb (F.ev rfl)) fun a F=>?_
 refine Jp F (F.want (t:=26) (c:=false) rfl rfl rfl (by rfl) rfl) rfl (by rfl) (Jh Try.func7 (by kernel_rfl) (by rfl) (.cons (F.ev rfl) (.cons (F.ev rfl) .nil)) _) (Jdw P Q G H n capl pl ls hP hQ hG hH _ (r.call HM.bel HM.bel.size) hf) fun a w z F=>?_
 replace HM:=HM.on z
 clear z
 refine lxw 26 false (.bool true) F (Wk (b:=false) (r:=true) (F.ev rfl) rfl) fun a F=>?_
 refine lxv (.bool true) F (Jt (b:=false) (r:=.bool true) (F.ev rfl) rfl (F.ev rfl) rfl) fun a F=>?_
 refine Jf ?_
 refine Kgq ?_
 refine wp_cond_true (F.ev rfl) ?_
 refine Kgr ?_
 refine Jp F (Ja rfl _) rfl (by rfl) (Jh Try.func6 (by kernel_rfl) (by rfl) .nil _) (Uk _) fun a w z F=>?_
 replace HM:=HM.on z
 clear z
 refine lxv (.bool true) F (Jg (F.ev rfl)) fun a F=>?_
 refine Jf ?_
 refine Kgq ?_
 refine wp_ret ?_
 repeat (first | refine Ju ?_ | refine Jo ?_)
 exact Kt F HM (Kq F rfl (s:=4) rfl)

def lst (ps:List Nat):Nat→Nat
 | 0=>1
 | i+1=>if ps.getD i 0=0 then lst ps i else i+1
theorem lst_iff (ps:List Nat) (k:Nat) (hk:1≤k):∀ n,lst ps n≤k ↔ ∀ i,k≤i→i<n→ps.getD i 0=0
 | 0=>by simp [lst,hk]
 | n+1=>by
  unfold lst
  by_cases h:ps.getD n 0=0
  ·rw [if_pos h,lst_iff ps k hk n]
   constructor
   ·intro hz i h1 h2
    by_cases e:i=n
    ·rw [e];exact h
    ·exact hz i h1 (by omega)
   ·exact fun hz i h1 h2=>hz i h1 (by omega)
  ·rw [if_neg h]
   constructor
   ·intro hle i h1 h2;omega
   ·intro hz
    by_cases e:n+1≤k
    ·exact e
    ·exact absurd (hz n (by omega) (by omega)) h
set_option maxRecDepth 100000 in
set_option maxHeartbeats 800000 in
theorem dlst_4 (P Q G H n capl:Nat) (pl:Option Addr) (ls:List Nat) (w0:World) (hP:P<2^256) (hQ:Q<2^256) (hG:G<2^256) (hH:H<2^256) (r:RN w0.heap.size w0 pl n capl ls) (h7:n≤7) (h0:0<n) (hf:fineB P Q G H ls=true):Calls Try.prog 5 #[grp P Q G H,.slice pl n capl] w0 fun e w'=>e=.returned (.bool true)∧Below w0.heap.size w0 w':=by
 obtain ⟨gl,ol,rfl,hil,hxb,hcl⟩:=r.get h0
 have hn7:n≤7:=h7
 obtain ⟨gd,hQ7,hQs,hw0,hls⟩:=fine_gd hP hQ hG hH hf
 have hq1:1<Q:=gd.pri.1
 have hcap:n≤capl:=by have:=r.2.1;rw [r.1] at this;exact this
 refine Ka (args:=[grp P Q G H,.slice (some ⟨gl,ol,none⟩) n capl]) Try.func5 rfl Try.ntmps5 (by rfl) fun a F HM=>?_
 refine Kgr ?_
 refine Jn F HM (Ja rfl _) rfl (by rfl) (Kl (F.ev rfl)) fun a w gg F HM=>?_
 refine lxv (.bool false) F (Jg rfl) fun a F=>?_
 refine Jf ?_
 refine Kgr ?_
 refine Jp F (Ja rfl _) rfl (by rfl) (Jh Try.func6 (by kernel_rfl) (by rfl) .nil _) (Uk _) fun a w z F=>?_
 replace HM:=HM.on z
 clear z
 refine lxv (.bool false) F (Wk (b:=true) (r:=false) (F.ev rfl) rfl) fun a F=>?_
 refine lxv (.bool false) F (Jb (F.ev rfl)) fun a F=>?_
 refine lxw 16 false (.slice (some ⟨gl,ol,none⟩) n capl) F (Jb (F.ev rfl)) fun a F=>?_
 refine lxw 16 false (.int .i64 (n:Nat)) F (Ui (F.ev rfl)) fun a F=>?_
 refine lxw 16 false (.bool false) F (Um (m:=(n:Nat)) (decide_eq_false (by omega)) (F.ev rfl) rfl) fun a F=>?_
 refine lxv (.bool false) F (Jt (b:=false) (r:=.bool false) (F.ev rfl) rfl (F.ev rfl) rfl) fun a F=>?_
 refine lxv (.bool false) F (Jb (F.ev rfl)) fun a F=>?_
 refine lxw 21 false (.slice (some ⟨gl,ol,none⟩) n capl) F (Jb (F.ev rfl)) fun a F=>?_
 refine lxw 21 false (.int .i64 (n:Nat)) F (Ui (F.ev rfl)) fun a F=>?_
 refine lxw 21 false (.bool false) F (Kh (u:=.int .i64 (n:Nat)) (v:=.int .i64 0) (fun ρ hx hy=>by simp only [execOp,hx,hy];simp [go_sem];omega) (F.ev rfl) rfl) fun a F=>?_
 refine lxv (.bool false) F (Jt (b:=false) (r:=.bool false) (F.ev rfl) rfl (F.ev rfl) rfl) fun a F=>?_
 refine lxv (.bool false) F (Jb (F.ev rfl)) fun a F=>?_
 refine lxw 26 false (grp P Q G H) F (Jr (F.ev rfl) (HM.get 0 rfl)) fun a F=>?_
 refine lxw 26 false (.slice (some ⟨gl,ol,none⟩) n capl) F (Jb (F.ev rfl)) fun a F=>?_
 refine Jp F (F.want (t:=26) (c:=false) rfl rfl rfl (by rfl) rfl) rfl (by rfl) (Jh Try.func7 (by kernel_rfl) (by rfl) (.cons (F.ev rfl) (.cons (F.ev rfl) .nil)) _) (Jdw P Q G H n capl _ ls hP hQ hG hH _ (r.call HM.bel HM.bel.size) hf) fun a w z F=>?_
 replace HM:=HM.on z
 clear z
 refine lxw 26 false (.bool false) F (Wk (b:=true) (r:=false) (F.ev rfl) rfl) fun a F=>?_
 refine lxv (.bool false) F (Jt (b:=false) (r:=.bool false) (F.ev rfl) rfl (F.ev rfl) rfl) fun a F=>?_
 refine Jf ?_
 refine Kgq ?_
 refine wp_cond_false (F.ev rfl) ?_
 refine Kgr ?_
 refine lxv (.slice none 0 0) F (Jg rfl) fun a F=>?_
 refine Jf ?_
 refine Kgr ?_
 refine lxv (.int .i64 1) F (Jg rfl) fun a F=>?_
 refine Jf ?_
 refine Kgq ?_
 refine wp_loop (fun a w=>∃ (i:Nat) (v:Value) (R:List (Nat × TypeId × Array Value)),i≤n∧LR R v (Jax Q i)∧Fr a 90 [(6,.int .i64 ((i+1:Nat):Int)),(5,v),(1,.slice (some ⟨gl,ol,none⟩) n capl),(2,.pointer (some ⟨gg,0,none⟩))] []∧Mem w0.heap.size w0 w ((gg,26,gcs P Q G H)::R)) (fun a _=>n+1-(intOf (a.tmps.getD 6 undef)).toNat) ⟨0,_,[],Nat.zero_le _,LR.nil _,F.sub [6,5,1,2],HM⟩ ?_
 clear F HM
 rintro aS wS ⟨i,v,R,hi,lv,FS,HM⟩
 have F:=FS
 by_cases hlt:i<n
 ·refine Kgr ?_
  refine lxv (.int .i64 ((i+1:Nat):Int)) F (Jb (F.ev rfl)) fun a F=>?_
  refine lxv (.slice (some ⟨gl,ol,none⟩) n capl) F (Jb (F.ev rfl)) fun a F=>?_
  refine lxv (.int .i64 (n:Nat)) F (Ui (F.ev rfl)) fun a F=>?_
  refine lxv (.bool true) F (Kh (u:=.int .i64 ((i+1:Nat):Int)) (v:=.int .i64 (n:Nat)) (fun ρ hx hy=>by simp only [execOp,hx,hy];simp [go_sem];omega) (F.ev rfl) (F.ev rfl)) fun a F=>?_
  refine Jf ?_
  refine Kgq ?_
  refine wp_cond_true (F.ev rfl) ?_
  refine Kgr ?_
  refine lxv v F (Jb (F.ev rfl)) fun a F=>?_
  refine lxv (grp P Q G H) F (Jr (F.ev rfl) (HM.get 0 rfl)) fun a F=>?_
  refine lxv (.int .i64 ((i+1:Nat):Int)) F (Jb (F.ev rfl)) fun a F=>?_
  refine Jp F (Ja rfl _) rfl (by rfl) (Jh Try.func11 (by kernel_rfl) (by rfl) (.cons (F.ev rfl) (.cons (F.ev rfl) .nil)) _) ((fun w=>Jaf P Q G H ((i+1:Nat):Int) hQ (by omega) (by omega) w) _) fun a w z F=>?_
  replace HM:=HM.on z
  clear z
  refine Xx F HM (Ja rfl _) rfl (by rfl) (Vn (F.ev rfl)) fun a w gy F HM=>?_
  obtain ⟨v2,w2,hrun,R,HM2,l2,lk2⟩:=Jgs (ρ:=a.eval) (s:=.tmp 39) (x:=.tmp 43) (A:=[(gy,24,(Xi ((Ki Q ((i+1:Nat):Int))))),(gg,26,gcs P Q G H)]) HM lv (F.ev rfl) (F.ev rfl) rfl ((Pf.one (Ki Q ((i+1:Nat):Int))).lie (HM.get 0 rfl)) (by simp) (by simp [Jax];omega)
  replace HM:=HM2;have lv:=l2
  refine Uy (v:=v2) F (Ja rfl _) rfl (by rfl) hrun fun a F=>?_
  refine lxv v2 F (Jg (F.ev rfl)) fun a F=>?_
  refine Jf ?_
  replace HM:=HM.erase 0 (M2:=((gg,26,gcs P Q G H)::R)) rfl
  refine Kgr ?_
  refine lxv (.int .i64 ((i+1:Nat):Int)) F (Jb (F.ev rfl)) fun a F=>?_
  refine lxv (.int .i64 ((i+1+1:Nat):Int)) F (Kh (u:=.int .i64 ((i+1:Nat):Int)) (v:=.int .i64 1) (fun ρ hx hy=>by simp only [execOp,hx,hy];simp [go_sem];exact Jed (m:=i+1+1) (by omega)) (F.ev rfl) rfl) fun a F=>?_
  refine lxv (.int .i64 ((i+1+1:Nat):Int)) F (Jg (F.ev rfl)) fun a F=>?_
  refine Jf ?_
  refine Jv ?_
  have hl2:Jax Q (i+1)=Jax Q i++[Ki Q ((i+1:Nat):Int)]:=by unfold Jax;rw [List.range_succ,List.map_append];rfl
  refine ⟨⟨i+1,_,_,by omega,by rw [hl2];exact lv,F.sub [6,5,1,2],HM⟩,?_⟩
  ·show n+1-(intOf (a.tmps.getD 6 undef)).toNat<n+1-(intOf (aS.tmps.getD 6 undef)).toNat
   rw [F.get 6 _ rfl,FS.get 6 _ rfl]
   show n+1-((i+1+1:Nat):Int).toNat<n+1-((i+1:Nat):Int).toNat
   omega
 ·refine Kgr ?_
  refine lxv (.int .i64 ((i+1:Nat):Int)) F (Jb (F.ev rfl)) fun a F=>?_
  refine lxv (.slice (some ⟨gl,ol,none⟩) n capl) F (Jb (F.ev rfl)) fun a F=>?_
  refine lxv (.int .i64 (n:Nat)) F (Ui (F.ev rfl)) fun a F=>?_
  refine lxv (.bool false) F (Kh (u:=.int .i64 ((i+1:Nat):Int)) (v:=.int .i64 (n:Nat)) (fun ρ hx hy=>by simp only [execOp,hx,hy];simp [go_sem];omega) (F.ev rfl) (F.ev rfl)) fun a F=>?_
  refine Jf ?_
  refine Kgq ?_
  refine wp_cond_false (F.ev rfl) ?_
  refine Kgq ?_
  refine wp_exit ?_
  repeat (first | refine Us ?_ | refine Un ?_)
  have hik:i=n:=by omega
  rw [hik] at lv
  clear hik
  obtain ⟨av,cv,rfl⟩:=lv.form
  have hle:(Jax Q n).length=n:=by simp [Jax]
  rw [hle] at F lv
  have hrp:=lv.rn HM (fun x hx=>by simp [hx]) (fun x hx=>Nat.lt_trans (Jfq hq1 x hx) hQ)
  have hrp2:=hrp
  refine Kgr ?_
  refine lxv (grp P Q G H) F (Jr (F.ev rfl) (HM.get 0 rfl)) fun a F=>?_
  refine lxv (.slice av n cv) F (Jb (F.ev rfl)) fun a F=>?_
  refine lxv (.slice (some ⟨gl,ol,none⟩) n capl) F (Jb (F.ev rfl)) fun a F=>?_
  refine Xf F (Ja rfl _) rfl (by rfl) (Jh Try.func12 (by kernel_rfl) (by rfl) (.cons (F.ev rfl) (.cons (F.ev rfl) (.cons (F.ev rfl) .nil))) _) (thr_ok12 P Q G H n cv n capl av (some ⟨gl,ol,none⟩) (Jax Q n) ls _ hQ hrp (r.call HM.bel HM.bel.size) (by omega) (pts_thr (by omega) hq1 h0 _ r.1 hls) (pts_D gd.pri (by omega))) fun a w u hu F=>?_
  obtain ⟨z,gp,ps,cs,rfl,hg,hat,hpp,hts⟩:=hu
  have hne:=Jcy HM hg
  have hge:=Nat.le_trans (Nat.le_trans HM.le HM.bel.size) hg
  replace HM:=(HM.on z).add hge (fun x hx=>hne x hx) hat
  clear hne hge hg z hat
  refine lxv (.tuple #[.slice (some ⟨gp,0,none⟩) n n,.int .i64 0]) F (Jb (F.ev rfl)) fun a F=>?_
  refine lxv (.slice (some ⟨gp,0,none⟩) n n) F (Jk (F.ev rfl) rfl) fun a F=>?_
  refine lxv (.int .i64 0) F (Jk (F.ev rfl) rfl) fun a F=>?_
  refine lxv (.slice (some ⟨gp,0,none⟩) n n) F (Jg (F.ev rfl)) fun a F=>?_
  refine lxv (.int .i64 0) F (Jg (F.ev rfl)) fun a F=>?_
  refine Jf ?_
  have hpl:ps.length=n:=by rw [hts.1];simp [Jax]
  have hpc:ps=(comb Q n (fun x=>ls.getD x 0) n):=Jcw gd.pri (by omega) _ ps hpl hts.2.1 fun j hj=>ts_val hq1 hts hj (by rw [List.getD_eq_getElem?_getD,List.getElem?_eq_getElem (by rw [r.1];exact hj)];rfl)
  refine Kgr ?_
  refine lxv (.int .i64 1) F (Jg rfl) fun a F=>?_
  refine Jf ?_
  refine Kgr ?_
  refine lxv (.int .i64 0) F (Jg rfl) fun a F=>?_
  refine Jf ?_
  refine Kgq ?_
  refine wp_loop (fun a w=>∃ (i:Nat),i≤n∧Fr a 90 [(10,.int .i64 (i:Nat)),(9,.int .i64 (lst ps i:Nat)),(7,.slice (some ⟨gp,0,none⟩) n n),(8,.int .i64 0),(1,.slice (some ⟨gl,ol,none⟩) n capl),(2,.pointer (some ⟨gg,0,none⟩))] []∧Mem w0.heap.size w0 w ((gp,24,cs)::(gg,26,gcs P Q G H)::R)) (fun a _=>n-(intOf (a.tmps.getD 10 undef)).toNat) ⟨0,Nat.zero_le _,F.sub [10,9,7,8,1,2],HM⟩ ?_
  clear F HM hrp hrp2
  rintro aS wS ⟨i,hi,FS,HM⟩
  have F:=FS
  by_cases hlt:i<n
  ·refine Kgr ?_
   refine lxv (.int .i64 (i:Nat)) F (Jb (F.ev rfl)) fun a F=>?_
   refine lxv (.slice (some ⟨gp,0,none⟩) n n) F (Jb (F.ev rfl)) fun a F=>?_
   refine lxv (.int .i64 (n:Nat)) F (Ui (F.ev rfl)) fun a F=>?_
   refine lxv (.bool true) F (Kh (u:=.int .i64 (i:Nat)) (v:=.int .i64 (n:Nat)) (fun ρ hx hy=>by simp only [execOp,hx,hy];simp [go_sem];omega) (F.ev rfl) (F.ev rfl)) fun a F=>?_
   refine Jf ?_
   refine Kgq ?_
   refine wp_cond_true (F.ev rfl) ?_
   have hwr:IntKind.i64.wrap ((i:Int)+1)=((i+1:Nat):Int):=by rw [IntKind.wrap_i64];omega
   have hxl:ps[i]? = some (ps.getD i 0):=by rw [List.getD_eq_getElem?_getD,List.getElem?_eq_getElem (by omega)];rfl
   have hxQ:ps.getD i 0<2^256:=Nat.lt_trans (hts.2.1 _ (List.mem_of_getElem? hxl)) hQ
   have hc4:=hpp.c4 (HM.get 0 rfl) hxl
   by_cases hz:ps.getD i 0=0
   ·refine Kgr ?_
    refine lxv (.slice (some ⟨gp,0,none⟩) n n) F (Jb (F.ev rfl)) fun a F=>?_
    refine lxv (.int .i64 (i:Nat)) F (Jb (F.ev rfl)) fun a F=>?_
    refine lxv (.pointer (some ⟨gp,0+i*4,none⟩)) F (Vx hlt (F.ev rfl) (F.ev rfl)) fun a F=>?_
    refine lxv (num ((ps.getD i 0))) F (Va (F.ev rfl) hc4) fun a F=>?_
    refine lxv (num 0) F (Uo) fun a F=>?_
    refine lxv (.bool false) F (Jai hxQ (by decide) (decide_eq_true hz) (F.ev rfl) (F.ev rfl)) fun a F=>?_
    refine Jf ?_
    refine Kgq ?_
    refine wp_cond_false (F.ev rfl) ?_
    refine Kgr ?_
    refine lxv (.int .i64 (i:Nat)) F (Jb (F.ev rfl)) fun a F=>?_
    refine lxv (.int .i64 ((i+1:Nat):Int)) F (Kh (u:=.int .i64 (i:Nat)) (v:=.int .i64 1) (fun ρ hx hy=>by simp only [execOp,hx,hy];simp [go_sem,hwr]) (F.ev rfl) rfl) fun a F=>?_
    refine lxv (.int .i64 ((i+1:Nat):Int)) F (Jg (F.ev rfl)) fun a F=>?_
    refine Jf ?_
    have hl2:lst ps (i+1)=lst ps i:=by rw [lst,if_pos hz]
    refine Jv ?_
    refine ⟨⟨i+1,by omega,by rw [hl2];exact F.sub [10,9,7,8,1,2],HM⟩,?_⟩
    ·show n-(intOf (a.tmps.getD 10 undef)).toNat<n-(intOf (aS.tmps.getD 10 undef)).toNat
     rw [F.get 10 _ rfl,FS.get 10 _ rfl]
     show n-((i+1:Nat):Int).toNat<n-((i:Nat):Int).toNat
     omega
   ·refine Kgr ?_
    refine lxv (.slice (some ⟨gp,0,none⟩) n n) F (Jb (F.ev rfl)) fun a F=>?_
    refine lxv (.int .i64 (i:Nat)) F (Jb (F.ev rfl)) fun a F=>?_
    refine lxv (.pointer (some ⟨gp,0+i*4,none⟩)) F (Vx hlt (F.ev rfl) (F.ev rfl)) fun a F=>?_
    refine lxv (num ((ps.getD i 0))) F (Va (F.ev rfl) hc4) fun a F=>?_
    refine lxv (num 0) F (Uo) fun a F=>?_
    refine lxv (.bool true) F (Jai hxQ (by decide) (decide_eq_false hz) (F.ev rfl) (F.ev rfl)) fun a F=>?_
    refine Jf ?_
    refine Kgq ?_
    refine wp_cond_true (F.ev rfl) ?_
    refine Kgr ?_
    refine lxv (.int .i64 (i:Nat)) F (Jb (F.ev rfl)) fun a F=>?_
    refine lxv (.int .i64 ((i+1:Nat):Int)) F (Kh (u:=.int .i64 (i:Nat)) (v:=.int .i64 1) (fun ρ hx hy=>by simp only [execOp,hx,hy];simp [go_sem,hwr]) (F.ev rfl) rfl) fun a F=>?_
    refine lxv (.int .i64 ((i+1:Nat):Int)) F (Jg (F.ev rfl)) fun a F=>?_
    refine Jf ?_
    refine Kgr ?_
    refine lxv (.int .i64 (i:Nat)) F (Jb (F.ev rfl)) fun a F=>?_
    refine lxv (.int .i64 ((i+1:Nat):Int)) F (Kh (u:=.int .i64 (i:Nat)) (v:=.int .i64 1) (fun ρ hx hy=>by simp only [execOp,hx,hy];simp [go_sem,hwr]) (F.ev rfl) rfl) fun a F=>?_
    refine lxv (.int .i64 ((i+1:Nat):Int)) F (Jg (F.ev rfl)) fun a F=>?_
    refine Jf ?_
    have hl2:lst ps (i+1)=i+1:=by rw [lst,if_neg hz]
    refine Jv ?_
    refine ⟨⟨i+1,by omega,by rw [hl2];exact F.sub [10,9,7,8,1,2],HM⟩,?_⟩
    ·show n-(intOf (a.tmps.getD 10 undef)).toNat<n-(intOf (aS.tmps.getD 10 undef)).toNat
     rw [F.get 10 _ rfl,FS.get 10 _ rfl]
     show n-((i+1:Nat):Int).toNat<n-((i:Nat):Int).toNat
     omega
  ·refine Kgr ?_
   refine lxv (.int .i64 (i:Nat)) F (Jb (F.ev rfl)) fun a F=>?_
   refine lxv (.slice (some ⟨gp,0,none⟩) n n) F (Jb (F.ev rfl)) fun a F=>?_
   refine lxv (.int .i64 (n:Nat)) F (Ui (F.ev rfl)) fun a F=>?_
   refine lxv (.bool false) F (Kh (u:=.int .i64 (i:Nat)) (v:=.int .i64 (n:Nat)) (fun ρ hx hy=>by simp only [execOp,hx,hy];simp [go_sem];omega) (F.ev rfl) (F.ev rfl)) fun a F=>?_
   refine Jf ?_
   refine Kgq ?_
   refine wp_cond_false (F.ev rfl) ?_
   refine Kgq ?_
   refine wp_exit ?_
   repeat (first | refine Us ?_ | refine Un ?_)
   have hin:i=n:=by omega
   rw [hin] at F
   clear FS hin hlt hi
   refine Kgr ?_
   refine lxv (.int .i64 1) F (Jg rfl) fun a F=>?_
   refine Jf ?_
   refine Kgq ?_
   refine wp_loop (fun a w=>∃ (k:Nat),k≤n∧Fr a 90 [(11,.int .i64 ((k+1:Nat):Int)),(9,.int .i64 (lst ps n:Nat)),(8,.int .i64 0),(1,.slice (some ⟨gl,ol,none⟩) n capl),(2,.pointer (some ⟨gg,0,none⟩))] []∧Mem w0.heap.size w0 w ((gp,24,cs)::(gg,26,gcs P Q G H)::R)) (fun a _=>n+1-(intOf (a.tmps.getD 11 undef)).toNat) ⟨0,Nat.zero_le _,F.sub [11,9,8,1,2],HM⟩ ?_
   clear F HM
   rintro aS wS ⟨k,hk,FS,HM⟩
   have F:=FS
   by_cases hlt:k<n
   ·refine Kgr ?_
    refine lxv (.int .i64 ((k+1:Nat):Int)) F (Jb (F.ev rfl)) fun a F=>?_
    refine lxv (.slice (some ⟨gl,ol,none⟩) n capl) F (Jb (F.ev rfl)) fun a F=>?_
    refine lxv (.int .i64 (n:Nat)) F (Ui (F.ev rfl)) fun a F=>?_
    refine lxv (.bool true) F (Kh (u:=.int .i64 ((k+1:Nat):Int)) (v:=.int .i64 (n:Nat)) (fun ρ hx hy=>by simp only [execOp,hx,hy];simp [go_sem];omega) (F.ev rfl) (F.ev rfl)) fun a F=>?_
    refine Jf ?_
    refine Kgq ?_
    refine wp_cond_true (F.ev rfl) ?_
    obtain ⟨b,hb⟩:∃ b:Bool,(b=true ↔ ∀ i,k+1≤i→i<n→(comb Q n (fun x=>ls.getD x 0) n)[i]? = some 0):=by classical exact ⟨decide _,decide_eq_true_iff⟩
    have hb2:decide (((lst ps n:Nat):Int)≤((k+1:Nat):Int))=b:=by
     rw [Bool.eq_iff_iff,hb,decide_eq_true_iff,Int.ofNat_le,lst_iff ps (k+1) (by omega) n,← hpc]
     refine forall_congr' fun i=>forall_congr' fun _=>forall_congr' fun hin=>?_
     rw [List.getD_eq_getElem?_getD,List.getElem?_eq_getElem (show i<ps.length by omega)]
     simp
    refine Kgr ?_
    refine lxv (grp P Q G H) F (Jr (F.ev rfl) (HM.get 1 rfl)) fun a F=>?_
    refine lxv (.slice (some ⟨gl,ol,none⟩) n capl) F (Jb (F.ev rfl)) fun a F=>?_
    refine lxv (.int .i64 ((k+1:Nat):Int)) F (Jb (F.ev rfl)) fun a F=>?_
    refine Jp F (Ja rfl _) rfl (by rfl) (Jh Try.func9 (by kernel_rfl) (by rfl) (.cons (F.ev rfl) (.cons (F.ev rfl) (.cons (F.ev rfl) .nil))) _) (Jdq (b:=b) gd H n capl (k+1) _ ls (comb Q n (fun x=>ls.getD x 0) n) _ hQ7 h7 (by omega) (by omega) (r.call HM.bel HM.bel.size) (Wn _ _ _ _) (Jcx hq1 _ _ _) (fun x hx=>Wf gd.pri (by omega) _ x hx) hb) fun a w z F=>?_
    replace HM:=HM.on z
    clear z
    refine lxv (.tuple #[.bool b,.int .i64 0]) F (Jb (F.ev rfl)) fun a F=>?_
    refine lxv (.bool b) F (Jk (F.ev rfl) rfl) fun a F=>?_
    refine lxv (.int .i64 0) F (Jk (F.ev rfl) rfl) fun a F=>?_
    refine lxv (.bool b) F (Jg (F.ev rfl)) fun a F=>?_
    refine lxv (.int .i64 0) F (Jg (F.ev rfl)) fun a F=>?_
    refine Jf ?_
    refine Kgr ?_
    refine lxv (.int .i64 0) F (Jb (F.ev rfl)) fun a F=>?_
    refine lxv (.bool false) F (Kh (u:=.int .i64 0) (v:=.int .i64 0) (fun ρ hx hy=>by simp only [execOp,hx,hy];simp [go_sem]) (F.ev rfl) rfl) fun a F=>?_
    refine lxv (.bool false) F (Jb (F.ev rfl)) fun a F=>?_
    refine lxw 81 false (.bool b) F (Jb (F.ev rfl)) fun a F=>?_
    refine lxw 81 false (.int .i64 ((k+1:Nat):Int)) F (Jb (F.ev rfl)) fun a F=>?_
    refine lxw 81 false (.int .i64 (lst ps n:Nat)) F (Jb (F.ev rfl)) fun a F=>?_
    refine lxw 81 false (.bool b) F (Jfw (m:=((k+1:Nat):Int)) (n:=((lst ps n:Nat):Int)) hb2 (F.ev rfl) (F.ev rfl)) fun a F=>?_
    refine lxw 81 false (.bool false) F (o_neqB rfl (F.ev rfl) (F.ev rfl)) fun a F=>?_
    refine lxv (.bool false) F (Jt (b:=false) (r:=.bool false) (F.ev rfl) rfl (F.ev rfl) rfl) fun a F=>?_
    refine Jf ?_
    refine Kgq ?_
    refine wp_cond_false (F.ev rfl) ?_
    refine Kgr ?_
    refine lxv (.int .i64 ((k+1:Nat):Int)) F (Jb (F.ev rfl)) fun a F=>?_
    refine lxv (.int .i64 ((k+1+1:Nat):Int)) F (Kh (u:=.int .i64 ((k+1:Nat):Int)) (v:=.int .i64 1) (fun ρ hx hy=>by simp only [execOp,hx,hy];simp [go_sem];exact Jed (m:=k+1+1) (by omega)) (F.ev rfl) rfl) fun a F=>?_
    refine lxv (.int .i64 ((k+1+1:Nat):Int)) F (Jg (F.ev rfl)) fun a F=>?_
    refine Jf ?_
    refine Jv ?_
    refine ⟨⟨k+1,by omega,F.sub [11,9,8,1,2],HM⟩,?_⟩
    ·show n+1-(intOf (a.tmps.getD 11 undef)).toNat<n+1-(intOf (aS.tmps.getD 11 undef)).toNat
     rw [F.get 11 _ rfl,FS.get 11 _ rfl]
     show n+1-((k+1+1:Nat):Int).toNat<n+1-((k+1:Nat):Int).toNat
     omega
   ·refine Kgr ?_
    refine lxv (.int .i64 ((k+1:Nat):Int)) F (Jb (F.ev rfl)) fun a F=>?_
    refine lxv (.slice (some ⟨gl,ol,none⟩) n capl) F (Jb (F.ev rfl)) fun a F=>?_
    refine lxv (.int .i64 (n:Nat)) F (Ui (F.ev rfl)) fun a F=>?_
    refine lxv (.bool false) F (Kh (u:=.int .i64 ((k+1:Nat):Int)) (v:=.int .i64 (n:Nat)) (fun ρ hx hy=>by simp only [execOp,hx,hy];simp [go_sem];omega) (F.ev rfl) (F.ev rfl)) fun a F=>?_
    refine Jf ?_
    refine Kgq ?_
    refine wp_cond_false (F.ev rfl) ?_
    refine Kgq ?_
    refine wp_exit ?_
    repeat (first | refine Us ?_ | refine Un ?_)
    refine Kgr ?_
    refine lxv (.int .i64 0) F (Jb (F.ev rfl)) fun a F=>?_
    refine lxv (.bool true) F (Kh (u:=.int .i64 0) (v:=.int .i64 0) (fun ρ hx hy=>by simp only [execOp,hx,hy];simp [go_sem]) (F.ev rfl) rfl) fun a F=>?_
    refine lxv (.bool true) F (Jg (F.ev rfl)) fun a F=>?_
    refine Jf ?_
    refine Kgq ?_
    refine wp_ret ?_
    repeat (first | refine Ju ?_ | refine Jo ?_)
    exact Kt F HM (Kq F rfl (s:=4) rfl)

theorem dlst_walk (P Q G H n capl:Nat) (pl:Option Addr) (ls:List Nat) (w0:World) (hP:P<2^256) (hQ:Q<2^256) (hG:G<2^256) (hH:H<2^256) (r:RN w0.heap.size w0 pl n capl ls):Calls Try.prog 5 #[grp P Q G H,.slice pl n capl] w0 fun e w'=>e=.returned (.bool true)∧Below w0.heap.size w0 w':=by
 by_cases h7:7<n
 ·exact dlst_1 P Q G H n capl pl ls w0 hP hQ hG hH r h7
 ·by_cases h0:n=0
  ·exact dlst_2 P Q G H n capl pl ls w0 hP hQ hG hH r h0
  ·rcases hf:fineB P Q G H ls with _ | _
   ·exact dlst_3 P Q G H n capl pl ls w0 hP hQ hG hH r (by omega) (by omega) hf
   ·exact dlst_4 P Q G H n capl pl ls w0 hP hQ hG hH r (by omega) (by omega) hf
end Go.Proofs.Ytcbnmdkmfdjpiaa
