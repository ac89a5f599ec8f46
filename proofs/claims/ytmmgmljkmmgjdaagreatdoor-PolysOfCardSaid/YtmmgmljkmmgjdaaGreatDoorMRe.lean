import Derived.Deep.Cut
import Derived.Test.YtmmgmljkmmgjdaaGreatDoorMRe0
import Derived.Test.YtmmgmljkmmgjdaaGreatDoorMTree
namespace Go.Proofs.YtmmgmljkmmgjdaaGreatDoor
set_option maxRecDepth 100000
open Go.RowKit
set_option linter.unusedSimpArgs false
set_option linter.unusedVariables false
attribute [local go_sem ↓] Go.wp_at_zero Go.wp_at_succ

set_option maxRecDepth 100000 in
set_option maxHeartbeats 800000 in
theorem rthr_n1 (P Q G H n cap m capv:Nat) (pa pb:Option Addr) (xs vs:List Nat) (w0:World) (hQ:Q<2^256) (r:RN w0.heap.size w0 pa n cap xs) (rv:RN w0.heap.size w0 pb m capv vs) (hp:Jbr Q xs=false):Calls Tryz.prog 25 #[grp P Q G H,.slice pa n cap,.slice pb m capv] w0 fun e w'=>e=.returned (.tuple #[.slice none 0 0,.int .i64 1])∧Below w0.heap.size w0 w':=by
 refine Jx (args:=[grp P Q G H,.slice pa n cap,.slice pb m capv]) Tryz.func25 rfl Tryz.ntmps25 (by rfl) fun a F HM=>?_
 refine Kgr ?_
 refine Jn F HM (Ja rfl _) rfl (by rfl) (Km (F.ev rfl)) fun a w gg F HM=>?_
 refine lxv (.slice none 0 0) F (Je rfl) fun a F=>?_
 refine lxv (.int .i64 0) F (Je rfl) fun a F=>?_
 refine Jc ?_
 refine Kgr ?_
 refine lxv (grp P Q G H) F (Js (F.ev rfl) (HM.get 0 rfl)) fun a F=>?_
 refine lxv (.slice pa n cap) F (Jb (F.ev rfl)) fun a F=>?_
 refine Jj F (Ja rfl _) rfl (by rfl) (Jh Tryz.func107 (by kernel_rfl) (by rfl) (.cons (F.ev rfl) (.cons (F.ev rfl) .nil)) _) (Xf P Q G H n cap pa xs _ hQ (r.call HM.bel HM.bel.size) hp) fun a w z F=>?_
 replace HM:=HM.on z
 clear z
 refine lxv (.bool true) F (Uh (b:=false) (r:=true) (F.ev rfl) rfl) fun a F=>?_
 refine lxv (.bool true) F (Jb (F.ev rfl)) fun a F=>?_
 refine lxp 21 true F fun a F=>?_
 refine lxp 21 true F fun a F=>?_
 refine lxp 21 true F fun a F=>?_
 refine lxp 21 true F fun a F=>?_
 refine lxp 21 true F fun a F=>?_
 refine lxv (.bool true) F (Kc (b:=true) (r:=.bool true) (F.ev rfl) rfl (F.ev rfl) rfl) fun a F=>?_
 refine lxv (.bool true) F (Jb (F.ev rfl)) fun a F=>?_
 refine lxp 28 true F fun a F=>?_
 refine lxp 28 true F fun a F=>?_
 refine lxp 28 true F fun a F=>?_
 refine lxp 28 true F fun a F=>?_
 refine lxv (.bool true) F (Kc (b:=true) (r:=.bool true) (F.ev rfl) rfl (F.ev rfl) rfl) fun a F=>?_
 refine Jc ?_
 refine Kgq ?_
 refine wp_cond_true (F.ev rfl) ?_
 refine Kgr ?_
 refine lxv (.slice none 0 0) F (Je rfl) fun a F=>?_
 refine lxv (.int .i64 1) F (Je rfl) fun a F=>?_
 refine Jc ?_
 refine Kgq ?_
 refine wp_ret ?_
 repeat (first | refine Jt ?_ | refine Jo ?_)
 exact bodyPost_ret (Jaa F (s:=6) (t:=7) rfl rfl rfl) F.defers ⟨rfl,HM.bel⟩

set_option maxRecDepth 100000 in
set_option maxHeartbeats 800000 in
theorem rthr_n2 (P Q G H n cap m capv:Nat) (pa pb:Option Addr) (xs vs:List Nat) (w0:World) (hQ:Q<2^256) (r:RN w0.heap.size w0 pa n cap xs) (rv:RN w0.heap.size w0 pb m capv vs) (hp:Jbr Q xs=true) (hmn:m≠n):Calls Tryz.prog 25 #[grp P Q G H,.slice pa n cap,.slice pb m capv] w0 fun e w'=>e=.returned (.tuple #[.slice none 0 0,.int .i64 1])∧Below w0.heap.size w0 w':=by
 refine Jx (args:=[grp P Q G H,.slice pa n cap,.slice pb m capv]) Tryz.func25 rfl Tryz.ntmps25 (by rfl) fun a F HM=>?_
 refine Kgr ?_
 refine Jn F HM (Ja rfl _) rfl (by rfl) (Km (F.ev rfl)) fun a w gg F HM=>?_
 refine lxv (.slice none 0 0) F (Je rfl) fun a F=>?_
 refine lxv (.int .i64 0) F (Je rfl) fun a F=>?_
 refine Jc ?_
 refine Kgr ?_
 refine lxv (grp P Q G H) F (Js (F.ev rfl) (HM.get 0 rfl)) fun a F=>?_
 refine lxv (.slice pa n cap) F (Jb (F.ev rfl)) fun a F=>?_
 refine Jj F (Ja rfl _) rfl (by rfl) (Jh Tryz.func107 (by kernel_rfl) (by rfl) (.cons (F.ev rfl) (.cons (F.ev rfl) .nil)) _) (Xf P Q G H n cap pa xs _ hQ (r.call HM.bel HM.bel.size) hp) fun a w z F=>?_
 replace HM:=HM.on z
 clear z
 refine lxv (.bool false) F (Uh (b:=true) (r:=false) (F.ev rfl) rfl) fun a F=>?_
 refine lxv (.bool false) F (Jb (F.ev rfl)) fun a F=>?_
 refine lxw 21 false (.slice pb m capv) F (Jb (F.ev rfl)) fun a F=>?_
 refine lxw 21 false (.int .i64 (m:Nat)) F (Ko (F.ev rfl)) fun a F=>?_
 refine lxw 21 false (.slice pa n cap) F (Jb (F.ev rfl)) fun a F=>?_
 refine lxw 21 false (.int .i64 (n:Nat)) F (Ko (F.ev rfl)) fun a F=>?_
 refine lxw 21 false (.bool true) F (Vn (b:=false) (decide_eq_false (by omega)) (F.ev rfl) (F.ev rfl) rfl) fun a F=>?_
 refine lxv (.bool true) F (Kc (b:=false) (r:=.bool true) (F.ev rfl) rfl (F.ev rfl) rfl) fun a F=>?_
 refine lxv (.bool true) F (Jb (F.ev rfl)) fun a F=>?_
 refine lxp 28 true F fun a F=>?_
 refine lxp 28 true F fun a F=>?_
 refine lxp 28 true F fun a F=>?_
 refine lxp 28 true F fun a F=>?_
 refine lxv (.bool true) F (Kc (b:=true) (r:=.bool true) (F.ev rfl) rfl (F.ev rfl) rfl) fun a F=>?_
 refine Jc ?_
 refine Kgq ?_
 refine wp_cond_true (F.ev rfl) ?_
 refine Kgr ?_
 refine lxv (.slice none 0 0) F (Je rfl) fun a F=>?_
 refine lxv (.int .i64 1) F (Je rfl) fun a F=>?_
 refine Jc ?_
 refine Kgq ?_
 refine wp_ret ?_
 repeat (first | refine Jt ?_ | refine Jo ?_)
 exact bodyPost_ret (Jaa F (s:=6) (t:=7) rfl rfl rfl) F.defers ⟨rfl,HM.bel⟩

set_option maxRecDepth 100000 in
set_option maxHeartbeats 800000 in
theorem rthr_n3 (P Q G H n cap m capv:Nat) (pa pb:Option Addr) (xs vs:List Nat) (w0:World) (hQ:Q<2^256) (r:RN w0.heap.size w0 pa n cap xs) (rv:RN w0.heap.size w0 pb m capv vs) (hp:Jbr Q xs=true) (hmn:m=n) (hall:(decide (1<Q) && Vz Q vs)=false):Calls Tryz.prog 25 #[grp P Q G H,.slice pa n cap,.slice pb m capv] w0 fun e w'=>e=.returned (.tuple #[.slice none 0 0,.int .i64 1])∧Below w0.heap.size w0 w':=by
 refine Jx (args:=[grp P Q G H,.slice pa n cap,.slice pb m capv]) Tryz.func25 rfl Tryz.ntmps25 (by rfl) fun a F HM=>?_
 refine Kgr ?_
 refine Jn F HM (Ja rfl _) rfl (by rfl) (Km (F.ev rfl)) fun a w gg F HM=>?_
 refine lxv (.slice none 0 0) F (Je rfl) fun a F=>?_
 refine lxv (.int .i64 0) F (Je rfl) fun a F=>?_
 refine Jc ?_
 refine Kgr ?_
 refine lxv (grp P Q G H) F (Js (F.ev rfl) (HM.get 0 rfl)) fun a F=>?_
 refine lxv (.slice pa n cap) F (Jb (F.ev rfl)) fun a F=>?_
 refine Jj F (Ja rfl _) rfl (by rfl) (Jh Tryz.func107 (by kernel_rfl) (by rfl) (.cons (F.ev rfl) (.cons (F.ev rfl) .nil)) _) (Xf P Q G H n cap pa xs _ hQ (r.call HM.bel HM.bel.size) hp) fun a w z F=>?_
 replace HM:=HM.on z
 clear z
 refine lxv (.bool false) F (Uh (b:=true) (r:=false) (F.ev rfl) rfl) fun a F=>?_
 refine lxv (.bool false) F (Jb (F.ev rfl)) fun a F=>?_
 refine lxw 21 false (.slice pb m capv) F (Jb (F.ev rfl)) fun a F=>?_
 refine lxw 21 false (.int .i64 (m:Nat)) F (Ko (F.ev rfl)) fun a F=>?_
 refine lxw 21 false (.slice pa n cap) F (Jb (F.ev rfl)) fun a F=>?_
 refine lxw 21 false (.int .i64 (n:Nat)) F (Ko (F.ev rfl)) fun a F=>?_
 refine lxw 21 false (.bool false) F (Vn (b:=true) (decide_eq_true (by omega)) (F.ev rfl) (F.ev rfl) rfl) fun a F=>?_
 refine lxv (.bool false) F (Kc (b:=false) (r:=.bool false) (F.ev rfl) rfl (F.ev rfl) rfl) fun a F=>?_
 refine lxv (.bool false) F (Jb (F.ev rfl)) fun a F=>?_
 refine lxw 28 false (grp P Q G H) F (Js (F.ev rfl) (HM.get 0 rfl)) fun a F=>?_
 refine lxw 28 false (.slice pb m capv) F (Jb (F.ev rfl)) fun a F=>?_
 refine Jj F (F.want (t:=28) (c:=false) rfl rfl rfl (by rfl) rfl) rfl (by rfl) (Jh Tryz.func103 (by kernel_rfl) (by rfl) (.cons (F.ev rfl) (.cons (F.ev rfl) .nil)) _) (Xi P Q G H m capv pb vs _ hQ (rv.call HM.bel HM.bel.size) hall) fun a w z F=>?_
 replace HM:=HM.on z
 clear z
 refine lxw 28 false (.bool true) F (Uh (b:=false) (r:=true) (F.ev rfl) rfl) fun a F=>?_
 refine lxv (.bool true) F (Kc (b:=false) (r:=.bool true) (F.ev rfl) rfl (F.ev rfl) rfl) fun a F=>?_
 refine Jc ?_
 refine Kgq ?_
 refine wp_cond_true (F.ev rfl) ?_
 refine Kgr ?_
 refine lxv (.slice none 0 0) F (Je rfl) fun a F=>?_
 refine lxv (.int .i64 1) F (Je rfl) fun a F=>?_
 refine Jc ?_
 refine Kgq ?_
 refine wp_ret ?_
 repeat (first | refine Jt ?_ | refine Jo ?_)
 exact bodyPost_ret (Jaa F (s:=6) (t:=7) rfl rfl rfl) F.defers ⟨rfl,HM.bel⟩

set_option maxRecDepth 100000 in
set_option maxHeartbeats 800000 in
theorem Jhz (P Q G H n cap m capv:Nat) (pa pb:Option Addr) (xs vs:List Nat) (w0:World) (hQ:Q<2^256) (r:RN w0.heap.size w0 pa n cap xs) (rv:RN w0.heap.size w0 pb m capv vs) (hp:Jbr Q xs=true) (hmn:m=n) (hall:(decide (1<Q) && Vz Q vs)=true) (h1:1<Q) (hxs:∀ x∈xs,x<Q) (hvs:∀ v∈vs,v<Q) (hn0:0<n) (hn:n≤1000):Calls Tryz.prog 25 #[grp P Q G H,.slice pa n cap,.slice pb m capv] w0 fun e w'=>(Jij Q xs→∃ (a2:Option Addr) (c2:Nat) (ps:List Nat),e=.returned (.tuple #[.slice a2 n c2,.int .i64 0])∧Below w0.heap.size w0 w'∧RN w'.heap.size w' a2 n c2 ps∧TS Q xs vs ps)∧(¬ Jij Q xs→e=.returned (.tuple #[.slice none 0 0,.int .i64 7])∧Below w0.heap.size w0 w'):=by
 refine Jx (args:=[grp P Q G H,.slice pa n cap,.slice pb m capv]) Tryz.func25 rfl Tryz.ntmps25 (by rfl) fun a F HM=>?_
 refine Kgr ?_
 refine Jn F HM (Ja rfl _) rfl (by rfl) (Km (F.ev rfl)) fun a w gg F HM=>?_
 refine lxv (.slice none 0 0) F (Je rfl) fun a F=>?_
 refine lxv (.int .i64 0) F (Je rfl) fun a F=>?_
 refine Jc ?_
 refine Kgr ?_
 refine lxv (grp P Q G H) F (Js (F.ev rfl) (HM.get 0 rfl)) fun a F=>?_
 refine lxv (.slice pa n cap) F (Jb (F.ev rfl)) fun a F=>?_
 refine Jj F (Ja rfl _) rfl (by rfl) (Jh Tryz.func107 (by kernel_rfl) (by rfl) (.cons (F.ev rfl) (.cons (F.ev rfl) .nil)) _) (Xf P Q G H n cap pa xs _ hQ (r.call HM.bel HM.bel.size) hp) fun a w z F=>?_
 replace HM:=HM.on z
 clear z
 refine lxv (.bool false) F (Uh (b:=true) (r:=false) (F.ev rfl) rfl) fun a F=>?_
 refine lxv (.bool false) F (Jb (F.ev rfl)) fun a F=>?_
 refine lxw 21 false (.slice pb m capv) F (Jb (F.ev rfl)) fun a F=>?_
 refine lxw 21 false (.int .i64 (m:Nat)) F (Ko (F.ev rfl)) fun a F=>?_
 refine lxw 21 false (.slice pa n cap) F (Jb (F.ev rfl)) fun a F=>?_
 refine lxw 21 false (.int .i64 (n:Nat)) F (Ko (F.ev rfl)) fun a F=>?_
 refine lxw 21 false (.bool false) F (Vn (b:=true) (decide_eq_true (by omega)) (F.ev rfl) (F.ev rfl) rfl) fun a F=>?_
 refine lxv (.bool false) F (Kc (b:=false) (r:=.bool false) (F.ev rfl) rfl (F.ev rfl) rfl) fun a F=>?_
 refine lxv (.bool false) F (Jb (F.ev rfl)) fun a F=>?_
 refine lxw 28 false (grp P Q G H) F (Js (F.ev rfl) (HM.get 0 rfl)) fun a F=>?_
 refine lxw 28 false (.slice pb m capv) F (Jb (F.ev rfl)) fun a F=>?_
 refine Jj F (F.want (t:=28) (c:=false) rfl rfl rfl (by rfl) rfl) rfl (by rfl) (Jh Tryz.func103 (by kernel_rfl) (by rfl) (.cons (F.ev rfl) (.cons (F.ev rfl) .nil)) _) (Xi P Q G H m capv pb vs _ hQ (rv.call HM.bel HM.bel.size) hall) fun a w z F=>?_
 replace HM:=HM.on z
 clear z
 refine lxw 28 false (.bool false) F (Uh (b:=true) (r:=false) (F.ev rfl) rfl) fun a F=>?_
 refine lxv (.bool false) F (Kc (b:=false) (r:=.bool false) (F.ev rfl) rfl (F.ev rfl) rfl) fun a F=>?_
 refine Jc ?_
 refine Kgq ?_
 refine wp_cond_false (F.ev rfl) ?_
 have hlen:=r.len
 refine Kgr ?_
 refine lxv (.slice pa n cap) F (Jb (F.ev rfl)) fun a F=>?_
 refine lxv (.int .i64 (n:Nat)) F (Ko (F.ev rfl)) fun a F=>?_
 refine Vv F HM (Ja rfl _) rfl (by rfl) (Jhp (Nat.le_trans hn (by decide)) (F.ev rfl) (F.ev rfl)) fun a w go F HM=>?_
 refine lxv (.slice (some ⟨go,0,none⟩) n n) F (Je (F.ev rfl)) fun a F=>?_
 refine Jc ?_
 refine Kgr ?_
 refine lxv (.int .i64 0) F (Je rfl) fun a F=>?_
 refine Jc ?_
 refine Kgq ?_
 refine wp_loop (fun a w=>∃ (i:Nat) (co:Array Value) (os:List Nat),i≤n∧Pf co os∧os.length=n∧(∀ c∈os,c<Q)∧(∀ (j x v:Nat),xs[j]? = some x→vs[j]? = some v→Cg Q (evZ (zs os) (x:Int)) (if j<i then (v:Int) else 0))∧(∀ (j x:Nat),j<i→xs[j]? = some x→U Q (oth Q xs (x:Int) j))∧Fr a 127 [(9,.int .i64 (i:Nat)),(8,.slice (some ⟨go,0,none⟩) n n),(1,.slice pa n cap),(2,.slice pb m capv),(3,.pointer (some ⟨gg,0,none⟩))] []∧Mem w0.heap.size w0 w [(go,24,co),(gg,26,gcs P Q G H)]) (fun a _=>n-(intOf (a.tmps.getD 9 undef)).toNat) ⟨0,_,List.replicate n 0,Nat.zero_le _,Pf.made n,by simp,fun c hc=>by rw [List.eq_of_mem_replicate hc];omega,fun j x v _ _=>Cg.of_eq (by rw [if_neg (Nat.not_lt_zero _)];exact Jef _ _ (fun c hc=>by obtain ⟨k,hk,rfl⟩:=List.mem_map.1 hc;rw [List.eq_of_mem_replicate hk];rfl)),fun j x h=>absurd h (Nat.not_lt_zero _),F.sub [9,8,1,2,3],HM⟩ ?_
 clear F HM
 rintro aS wS ⟨i,co,os,hi,hco,hol,hob,hov,hou,FS,HM⟩
 have F:=FS
 by_cases hlt:i<n
 ·refine Kgr ?_
  refine lxv (.int .i64 (i:Nat)) F (Jb (F.ev rfl)) fun a F=>?_
  refine lxv (.slice pa n cap) F (Jb (F.ev rfl)) fun a F=>?_
  refine lxv (.int .i64 (n:Nat)) F (Ko (F.ev rfl)) fun a F=>?_
  refine lxv (.bool true) F (Jz (u:=.int .i64 (i:Nat)) (v:=.int .i64 (n:Nat)) (fun ρ hx hy=>by simp only [execOp,hx,hy];simp [go_sem];omega) (F.ev rfl) (F.ev rfl)) fun a F=>?_
  refine Jc ?_
  refine Kgq ?_
  refine wp_cond_true (F.ev rfl) ?_
  have hwr:=r.room hlt
  have hltm:i<m:=by omega
  have hil:i<xs.length:=by rw [r.1];exact hlt
  have hgx:xs[i]? = some xs[i]:=List.getElem?_eq_getElem hil
  obtain ⟨gv,ov,hpb,hiv,hvb,hcv⟩:=rv.get hltm
  have hgv:vs[i]? = some vs[i]:=List.getElem?_eq_getElem hiv
  generalize xs[i]=x at *
  generalize vs[i]=v at *
  have hvQ:=hvs v (List.mem_of_getElem? hgv)
  refine Kgr ?_
  refine lxv (grp P Q G H) F (Js (F.ev rfl) (HM.get 1 rfl)) fun a F=>?_
  refine lxv (.slice pa n cap) F (Jb (F.ev rfl)) fun a F=>?_
  refine lxv (.int .i64 (i:Nat)) F (Jb (F.ev rfl)) fun a F=>?_
  refine Wi F (Ja rfl _) rfl (by rfl) (Jh Tryz.func108 (by kernel_rfl) (by rfl) (.cons (F.ev rfl) (.cons (F.ev rfl) (.cons (F.ev rfl) .nil))) _) ((runder_any P Q G H n cap i x pa xs _ hQ h1 hxs hgx (r.call HM.bel HM.bel.size))) fun a w u hu F=>?_
  obtain ⟨z,V,b,rfl,hVQ,hT,hF⟩:=hu
  replace HM:=HM.on z
  clear z
  refine lxv (.tuple #[num V,.bool b]) F (Jb (F.ev rfl)) fun a F=>?_
  refine lxv (num V) F (Jk (F.ev rfl) rfl) fun a F=>?_
  refine lxv (.bool b) F (Jk (F.ev rfl) rfl) fun a F=>?_
  refine Jn F HM (Ja rfl _) rfl (by rfl) (Jw) fun a w gw F HM=>?_
  refine Jv F HM (Ja rfl _) rfl (k:=0) rfl (Jq (F.ev rfl) (F.ev rfl) (HM.get 0 rfl)) (M2:=[(gw,24,ncs V),(go,24,co),(gg,26,gcs P Q G H)]) (rfl) fun w HM=>?_
  refine lxv (.bool b) F (Je (F.ev rfl)) fun a F=>?_
  refine Jc ?_
  rcases b with _ | _
  ·refine Kgr ?_
   refine lxv (.bool false) F (Jb (F.ev rfl)) fun a F=>?_
   refine lxv (.bool true) F (Uh (b:=false) (r:=true) (F.ev rfl) rfl) fun a F=>?_
   refine Jc ?_
   refine Kgq ?_
   refine wp_cond_true (F.ev rfl) ?_
   refine Kgr ?_
   refine lxv (.slice none 0 0) F (Je rfl) fun a F=>?_
   refine lxv (.int .i64 7) F (Je rfl) fun a F=>?_
   refine Jc ?_
   refine Kgq ?_
   refine wp_ret ?_
   repeat (first | refine Jt ?_ | refine Jo ?_)
   exact bodyPost_ret (Jaa F (s:=6) (t:=7) rfl rfl rfl) F.defers ⟨fun hu=>absurd (allD_U.1 hu i x hgx) (hF rfl),fun _=>⟨rfl,HM.bel⟩⟩
  ·refine Kgr ?_
   refine lxv (.bool true) F (Jb (F.ev rfl)) fun a F=>?_
   refine lxv (.bool false) F (Uh (b:=true) (r:=false) (F.ev rfl) rfl) fun a F=>?_
   refine Jc ?_
   refine Kgq ?_
   refine wp_cond_false (F.ev rfl) ?_
   have hVx:=hT rfl
   clear hT hF
   refine Kgr ?_
   refine lxv (.slice pa n cap) F (Jb (F.ev rfl)) fun a F=>?_
   refine lxv (.int .i64 (n:Nat)) F (Ko (F.ev rfl)) fun a F=>?_
   refine Vv F HM (Ja rfl _) rfl (by rfl) (Jhp (Nat.le_trans hn (by decide)) (F.ev rfl) (F.ev rfl)) fun a w gp F HM=>?_
   refine lxv (.slice (some ⟨gp,0,none⟩) n n) F (Je (F.ev rfl)) fun a F=>?_
   refine Jc ?_
   have hmade:=Pf.made n
   refine Kgq ?_
   refine Kg (S:=fun _=>True) HM (fun _ h=>trivial) (by kernel_rfl) fun w HM HBW=>?_
   clear HBW
   try simp only [List.append_eq,List.cons_append,List.nil_append]
   refine Kt [⟨0,55,[],.val (.slice (some ⟨gp,0,none⟩) n n),true⟩,
   ⟨1,56,[],.val (grp P Q G H),false⟩,
   ⟨2,57,[],.val (num V),false⟩,
   ⟨3,58,[],.val (.slice pb m capv),true⟩,
   ⟨4,59,[],.val (.int .i64 (i:Nat)),true⟩,
   ⟨5,60,[3,4],.val (.pointer (some ⟨gv,ov+i*4,none⟩)),true⟩,
   ⟨6,61,[5],.val (num v),false⟩,
   ⟨8,63,[0],.val (.pointer (some ⟨gp,0+0*4,none⟩)),true⟩,
   ⟨7,62,[1,2,6],.val (num ((V*v%Q))),false⟩] 1 _ F HM (fun _ _=>trivial) (by kernel_rfl) (by rfl) ?_ ?_ ?_ ?_ ?_ ?_ ?_
   ·kernel_rfl
   ·exact of_decide_eq_true (by kernel_rfl)
   ·(repeat refine all_cons ⟨_,by rfl,by rfl⟩ ?_);exact all_nil
   ·kernel_rfl
   ·(repeat (refine all_cons ?_ ?_;rotate_left));exact all_nil
    all_goals try exact Jm _ (by rfl)
    ·exact Wt _ _ _ _ _ _ _ (by rfl) (by rfl) Jg (fun ρ w kn hs=>Jb (kn _ _ (F.old (by rfl) rfl)))
    ·exact Wt _ _ _ _ _ _ _ (by rfl) (by rfl) Jg (fun ρ w kn hs=>Jb (kn _ _ (F.old (by rfl) rfl)))
    ·exact Wt _ _ _ _ _ _ _ (by rfl) (by rfl) Jg (fun ρ w kn hs=>Jb (kn _ _ (F.old (by rfl) rfl)))
    ·exact Wt _ _ _ _ _ _ _ (by rfl) (by rfl) Jg (fun ρ w kn hs=>Kv hltm (by rw [← hpb];exact (kn _ _ (kc 3 58))) (kn _ _ (kc 4 59)))
    ·exact crS (fun ρ w kn hs=>Kv (i:=0) hn0 (kn _ _ (kc 0 55)) (kn _ _ (Ji _)))
   ·(repeat (refine all_cons ?_ ?_;rotate_left));exact all_nil
    all_goals try exact sA
    ·exact fun _=>Um _ _ _ _ _ _ (by rfl) (by rfl) (fun ρ w kn hb=>Js (kn _ _ (F.old (by rfl) rfl)) ((HM.on hb).get 3 rfl))
    ·exact fun _=>Um _ _ _ _ _ _ (by rfl) (by rfl) (fun ρ w kn hb=>Jp (kn _ _ (F.old (by rfl) rfl)) ((HM.on hb).get 1 rfl))
    ·exact fun _=>Um _ _ _ _ _ _ (by rfl) (by rfl) (fun ρ w kn hb=>Kh (kn _ _ (kc 5 60)) (hcv _ (HM.on hb).bel))
    ·exact fun _=>Jl _ 106 _ _ [.tmp 56,.tmp 57,.tmp 61] _ _ _ _ _ _ _ (by rfl) Tryz.func106 (by kernel_rfl) (by rfl) (by rfl) (Jg) (.cons (kc 1 56) (.cons (kc 2 57) (.cons (kc 6 61) .nil))) ((Wk P Q G H V v hQ h1 hVQ hvQ))
   intro gs rs a w hgs hrs F HM HBW HR HO HT
   obtain rfl:=nl0 rs hrs
   obtain rfl:=nl0 gs hgs
   clear hrs hgs HR HBW HO
   clear HT
   refine Kn (i:=9) HM (by kernel_rfl) (by rfl) rfl rfl (k:=0) rfl (Xl (F.ev rfl) (F.ev rfl) (HM.get 0 rfl) (hmade.room (by simp;exact hn0))) (M2:=[(gp,24,((setC (madeCells (num 0).cells (n*4)) 0 (V*v%Q)))),(gw,24,ncs V),(go,24,co),(gg,26,gcs P Q G H)]) (rfl) (fun _ _=>trivial) fun w HM=>?_
   refine Ks (by kernel_rfl) ?_ _
   refine Kgr ?_
   refine lxv (.int .i64 0) F (Je rfl) fun a F=>?_
   refine Jc ?_
   refine Kgq ?_
   have hX0:V*v%Q<Q:=Nat.mod_lt _ (by omega)
   replace HM:=HM.erase 1 (M2:=[(gp,24,((setC (madeCells (num 0).cells (n*4)) 0 (V*v%Q)))),(go,24,co),(gg,26,gcs P Q G H)]) rfl
   refine wp_loop (fun a w=>∃ (k:Nat) (cp:Array Value) (ps:List Nat),k≤n∧Pf cp ps∧ps.length=n∧(∀ c∈ps,c<Q)∧(∀ X:Int,Cg Q (evZ (zs ps) X) (((V:Int)*(v:Int))*prZ X ((zs (xs.take k)).eraseIdx i)))∧(∀ j,((zs (xs.take k)).eraseIdx i).length<j→j<n→ps[j]? = some 0)∧Fr a 127 [(13,.int .i64 (k:Nat)),(12,.slice (some ⟨gp,0,none⟩) n n),(9,.int .i64 (i:Nat)),(8,.slice (some ⟨go,0,none⟩) n n),(1,.slice pa n cap),(2,.slice pb m capv),(3,.pointer (some ⟨gg,0,none⟩))] []∧Mem w0.heap.size w0 w [(gp,24,cp),(go,24,co),(gg,26,gcs P Q G H)]) (fun a _=>n-(intOf (a.tmps.getD 13 undef)).toNat) ⟨0,_,(List.replicate n 0).set 0 (V*v%Q),Nat.zero_le _,hmade.setC (by simp;exact hn0) _,by simp,fun c hc=>?_,fun X=>?_,fun j hj hjn=>?_,F.sub [13,12,9,8,1,2,3],HM⟩ ?_
   ·rcases List.mem_or_eq_of_mem_set hc with hc | rfl
    ·rw [List.eq_of_mem_replicate hc];omega
    ·exact hX0
   ·rw [first_ev n _ hn0]
    simp only [List.take_zero,zs,List.map_nil,List.eraseIdx_nil,prZ,Int.mul_one]
    exact cg_prod
   ·rw [List.getElem?_set_ne (by omega),List.getElem?_replicate,if_pos hjn]
   have FS9:aS.tmps.getD 9 undef=.int .i64 (i:Nat):=FS.get 9 _ rfl
   clear F HM FS hmade hX0
   rintro aT wT ⟨k,cp,ps,hk,hcp,hpl,hpb2,hpv,hpd,FT,HM⟩
   have F:=FT
   by_cases hlk:k<n
   ·refine Kgr ?_
    refine lxv (.int .i64 (k:Nat)) F (Jb (F.ev rfl)) fun a F=>?_
    refine lxv (.slice pa n cap) F (Jb (F.ev rfl)) fun a F=>?_
    refine lxv (.int .i64 (n:Nat)) F (Ko (F.ev rfl)) fun a F=>?_
    refine lxv (.bool true) F (Jz (u:=.int .i64 (k:Nat)) (v:=.int .i64 (n:Nat)) (fun ρ hx hy=>by simp only [execOp,hx,hy];simp [go_sem];omega) (F.ev rfl) (F.ev rfl)) fun a F=>?_
    refine Jc ?_
    refine Kgq ?_
    refine wp_cond_true (F.ev rfl) ?_
    have hwk:=r.room hlk
    have hkl:k<xs.length:=by rw [r.1];exact hlk
    have her:=er_step xs i k hkl
    obtain ⟨ga,oa,hpa,hal,hab,hca⟩:=r.get hlk
    have hga:xs[k]? = some xs[k]:=List.getElem?_eq_getElem hal
    generalize xs[k]=aa at *
    have haQ:=hxs aa (List.mem_of_getElem? hga)
    have FT13:aT.tmps.getD 13 undef=.int .i64 (k:Nat):=FT.get 13 _ rfl
    by_cases hki:k=i
    ·refine Kgr ?_
     refine lxv (.int .i64 (k:Nat)) F (Jb (F.ev rfl)) fun a F=>?_
     refine lxv (.int .i64 (i:Nat)) F (Jb (F.ev rfl)) fun a F=>?_
     refine lxv (.bool true) F (Jgw (b:=true) (decide_eq_true (by omega)) (F.ev rfl) (F.ev rfl) rfl) fun a F=>?_
     refine Jc ?_
     refine Kgq ?_
     refine wp_cond_true (F.ev rfl) ?_
     refine Kgq ?_
     refine wp_exit ?_
     repeat (first | refine Kk ?_ | refine Kd ?_)
     refine Kgr ?_
     refine lxv (.int .i64 (k:Nat)) F (Jb (F.ev rfl)) fun a F=>?_
     refine lxv (.int .i64 ((k+1:Nat):Int)) F (Jz (u:=.int .i64 (k:Nat)) (v:=.int .i64 1) (fun ρ hx hy=>by simp only [execOp,hx,hy];simp [go_sem,hwk]) (F.ev rfl) rfl) fun a F=>?_
     refine lxv (.int .i64 ((k+1:Nat):Int)) F (Je (F.ev rfl)) fun a F=>?_
     refine Jc ?_
     rw [if_pos hki] at her
     refine Ku ?_
     refine ⟨⟨k+1,cp,ps,by omega,hcp,hpl,hpb2,by rw [her];exact hpv,by rw [her];exact hpd,F.sub [13,12,9,8,1,2,3],HM⟩,?_⟩
     ·show n-(intOf (a.tmps.getD 13 undef)).toNat<n-(intOf (aT.tmps.getD 13 undef)).toNat
      rw [F.get 13 _ rfl,FT13]
      show n-((k+1:Nat):Int).toNat<n-((k:Nat):Int).toNat
      omega
    ·refine Kgr ?_
     refine lxv (.int .i64 (k:Nat)) F (Jb (F.ev rfl)) fun a F=>?_
     refine lxv (.int .i64 (i:Nat)) F (Jb (F.ev rfl)) fun a F=>?_
     refine lxv (.bool false) F (Jgw (b:=false) (decide_eq_false (by omega)) (F.ev rfl) (F.ev rfl) rfl) fun a F=>?_
     refine Jc ?_
     refine Kgq ?_
     refine wp_cond_false (F.ev rfl) ?_
     rw [if_neg hki] at her
     have hsub:IntKind.i64.wrap ((n:Int)-1)=(n:Int)-1:=by rw [IntKind.wrap_i64];omega
     refine Kgr ?_
     refine lxv (.slice pa n cap) F (Jb (F.ev rfl)) fun a F=>?_
     refine lxv (.int .i64 (n:Nat)) F (Ko (F.ev rfl)) fun a F=>?_
     refine lxv (.int .i64 ((n:Int)-1)) F (Jz (u:=.int .i64 (n:Nat)) (v:=.int .i64 1) (fun ρ hx hy=>by simp only [execOp,hx,hy];simp [go_sem,hsub]) (F.ev rfl) rfl) fun a F=>?_
     refine lxv (.int .i64 ((n:Int)-1)) F (Je (F.ev rfl)) fun a F=>?_
     refine Jc ?_
     refine Kgq ?_
     refine wp_loop (fun a w=>∃ (mm:Nat) (z:Int) (cq:Array Value),z=(mm:Int)-1∧mm≤n∧Pf cq (ps.take mm++(Jfr Q aa 0 ps).drop mm)∧Fr a 127 [(14,.int .i64 z),(13,.int .i64 (k:Nat)),(12,.slice (some ⟨gp,0,none⟩) n n),(9,.int .i64 (i:Nat)),(8,.slice (some ⟨go,0,none⟩) n n),(1,.slice pa n cap),(2,.slice pb m capv),(3,.pointer (some ⟨gg,0,none⟩))] []∧Mem w0.heap.size w0 w [(gp,24,cq),(go,24,co),(gg,26,gcs P Q G H)]) (fun a _=>(intOf (a.tmps.getD 14 undef)+1).toNat) ⟨n,_,cp,rfl,Nat.le_refl _,by rw [List.take_of_length_le (by omega),List.drop_of_length_le (by rw [Ww];omega),List.append_nil];exact hcp,F.sub [14,13,12,9,8,1,2,3],HM⟩ ?_
     clear F HM FT
     rintro aU wU ⟨mm,z,cq,hz,hmm,hcq,FU,HM⟩
     have F:=FU
     by_cases hm0:mm=0
     ·refine Kgr ?_
      refine lxv (.int .i64 z) F (Jb (F.ev rfl)) fun a F=>?_
      refine lxv (.bool false) F (Jz (u:=.int .i64 z) (v:=.int .i64 0) (fun ρ hx hy=>by simp only [execOp,hx,hy];simp [go_sem];omega) (F.ev rfl) rfl) fun a F=>?_
      refine Jc ?_
      refine Kgq ?_
      refine wp_cond_false (F.ev rfl) ?_
      refine Kgq ?_
      refine wp_exit ?_
      repeat (first | refine Kk ?_ | refine Kd ?_)
      rw [hm0,List.take_zero,List.drop_zero,List.nil_append] at hcq
      have hdl:=er_len xs i k (by omega)
      have hlast:ps[ps.length-1]? = some 0:=hpd _ (by rw [hdl,hpl];split <;> omega) (by omega)
      have hdl2:((zs (xs.take (k+1))).eraseIdx i).length=((zs (xs.take k)).eraseIdx i).length+1:=by rw [her,List.length_append];rfl
      refine Kgr ?_
      refine lxv (.int .i64 (k:Nat)) F (Jb (F.ev rfl)) fun a F=>?_
      refine lxv (.int .i64 ((k+1:Nat):Int)) F (Jz (u:=.int .i64 (k:Nat)) (v:=.int .i64 1) (fun ρ hx hy=>by simp only [execOp,hx,hy];simp [go_sem,hwk]) (F.ev rfl) rfl) fun a F=>?_
      refine lxv (.int .i64 ((k+1:Nat):Int)) F (Je (F.ev rfl)) fun a F=>?_
      refine Jc ?_
      refine Ku ?_
      refine ⟨⟨k+1,cq,Jfr Q aa 0 ps,by omega,hcq,by rw [Ww];exact hpl,mulr_lt h1 aa 0 ps,fun X=>?_,fun j hj hjn=>mulr_deg h1 (d:=((zs (xs.take k)).eraseIdx i).length) (fun j2 h2 h3=>hpd j2 h2 (by omega)) j (by omega) (by rw [Ww];omega),F.sub [13,12,9,8,1,2,3],HM⟩,?_⟩
      ·refine (mulr_all h1 X ps (Or.inr hlast)).trans ((Cg.mulL _ (hpv X)).trans (Cg.of_eq ?_))
       rw [her,Jev,prZ_one]
       grind
      ·show n-(intOf (a.tmps.getD 13 undef)).toNat<n-(intOf (aT.tmps.getD 13 undef)).toNat
       rw [F.get 13 _ rfl,FT13]
       show n-((k+1:Nat):Int).toNat<n-((k:Nat):Int).toNat
       omega
     ·obtain ⟨m1,rfl⟩:∃ m1,mm=m1+1:=⟨mm-1,by omega⟩
      obtain rfl:z=(m1:Int):=by omega
      clear hz
      have hm1:m1<n:=by omega
      have hm1p:m1<ps.length:=by omega
      have hgm:(ps.take (m1+1)++(Jfr Q aa 0 ps).drop (m1+1))[m1]? = some ps[m1]:=by rw [fold_get _ _ _ _ (Nat.lt_succ_self _) (by omega)];exact List.getElem?_eq_getElem hm1p
      have hmq:=Jgl Q aa 0 ps m1 hm1p
      have hpQ:=hpb2 _ (List.getElem_mem hm1p)
      have hll:(ps.take (m1+1)++(Jfr Q aa 0 ps).drop (m1+1)).length=n:=by rw [List.length_append,List.length_take,List.length_drop,Ww];omega
      generalize ps[m1]=pp at *
      have hsb:IntKind.i64.wrap ((m1:Int)-1)=(m1:Int)-1:=by rw [IntKind.wrap_i64];omega
      have hDQ:(0+Q-pp*aa%Q)%Q<Q:=Nat.mod_lt _ (by omega)
      have hTQ:pp*aa%Q<Q:=Nat.mod_lt _ (by omega)
      refine Kgr ?_
      refine lxv (.int .i64 (m1:Nat)) F (Jb (F.ev rfl)) fun a F=>?_
      refine lxv (.bool true) F (Jz (u:=.int .i64 (m1:Nat)) (v:=.int .i64 0) (fun ρ hx hy=>by simp only [execOp,hx,hy];simp [go_sem]) (F.ev rfl) rfl) fun a F=>?_
      refine Jc ?_
      refine Kgq ?_
      refine wp_cond_true (F.ev rfl) ?_
      refine Kgq ?_
      refine Kg (S:=fun w'=>Mem _ _ w' [(gp,24,cq),(go,24,co),(gg,26,gcs P Q G H)]) HM (fun _ h=>h) (by kernel_rfl) fun w HM HBW=>?_
      clear HBW
      try simp only [List.append_eq,List.cons_append,List.nil_append]
      refine Kt [⟨0,80,[],.val (grp P Q G H),true⟩,
   ⟨1,81,[0],.val (num 0),true⟩,
   ⟨2,82,[1],.val (grp P Q G H),true⟩,
   ⟨3,83,[2],.val (.slice (some ⟨gp,0,none⟩) n n),true⟩,
   ⟨4,84,[3],.val (.int .i64 (m1:Nat)),true⟩,
   ⟨5,85,[3,4],.val (.pointer (some ⟨gp,0+m1*4,none⟩)),true⟩,
   ⟨6,86,[5],.val (num pp),true⟩,
   ⟨7,87,[6],.val (.slice pa n cap),true⟩,
   ⟨8,88,[7],.val (.int .i64 (k:Nat)),true⟩,
   ⟨9,89,[7,8],.val (.pointer (some ⟨ga,oa+k*4,none⟩)),true⟩,
   ⟨10,90,[9],.val (num aa),true⟩,
   ⟨13,15,[],.cell 24 (ncs 0),false⟩,
   ⟨11,91,[2,6,10],.val (num ((pp*aa%Q))),false⟩,
   ⟨12,92,[0,1,12],.val (num (((0+Q-pp*aa%Q)%Q))),false⟩] 1 _ F HM (fun _ h=>h.subl (by first | exact List.Sublist.refl _ | (repeat (first | exact List.Sublist.refl _ | refine List.Sublist.cons_cons _ ?_ | refine List.Sublist.cons _ ?_)))) (by kernel_rfl) (by rfl) ?_ ?_ ?_ ?_ ?_ ?_ ?_
      ·kernel_rfl
      ·exact of_decide_eq_true (by kernel_rfl)
      ·(repeat refine all_cons ⟨_,by rfl,by rfl⟩ ?_);exact all_nil
      ·kernel_rfl
      ·(repeat (refine all_cons ?_ ?_;rotate_left));exact all_nil
       all_goals try exact Jm _ (by rfl)
       ·exact Wt _ _ _ _ _ _ _ (by rfl) (by rfl) Jg (fun ρ w kn hs=>Js (kn _ _ (F.old (by rfl) rfl)) (hs.get 2 rfl))
       ·exact crS (fun ρ w kn hs=>Uc)
       ·exact Wt _ _ _ _ _ _ _ (by rfl) (by rfl) Jg (fun ρ w kn hs=>Js (kn _ _ (F.old (by rfl) rfl)) (hs.get 2 rfl))
       ·exact Wt _ _ _ _ _ _ _ (by rfl) (by rfl) Jg (fun ρ w kn hs=>Jb (kn _ _ (F.old (by rfl) rfl)))
       ·exact Wt _ _ _ _ _ _ _ (by rfl) (by rfl) Jg (fun ρ w kn hs=>Jb (kn _ _ (F.old (by rfl) rfl)))
       ·exact crS (fun ρ w kn hs=>Kv hm1 (kn _ _ (kc 3 83)) (kn _ _ (kc 4 84)))
       ·exact crS (fun ρ w kn hs=>Kh (kn _ _ (kc 5 85)) (hcq.c4 (hs.get 0 rfl) hgm))
       ·exact Wt _ _ _ _ _ _ _ (by rfl) (by rfl) Jg (fun ρ w kn hs=>Jb (kn _ _ (F.old (by rfl) rfl)))
       ·exact Wt _ _ _ _ _ _ _ (by rfl) (by rfl) Jg (fun ρ w kn hs=>Jb (kn _ _ (F.old (by rfl) rfl)))
       ·exact Wt _ _ _ _ _ _ _ (by rfl) (by rfl) Jg (fun ρ w kn hs=>Kv hlk (by rw [← hpa];exact (kn _ _ (kc 7 87))) (kn _ _ (kc 8 88)))
       ·exact crS (fun ρ w kn hs=>Kh (kn _ _ (kc 9 89)) (hca _ hs.bel))
      ·(repeat (refine all_cons ?_ ?_;rotate_left));exact all_nil
       all_goals try exact sA
       ·exact fun _=>Uu _ _ _ _ _ _ _ _ (by rfl) (by rfl) (Nat.le_refl _) (fun ρ w=>Jw)
       ·exact fun _=>Jl _ 106 _ _ [.tmp 82,.tmp 86,.tmp 90] _ _ _ _ _ _ _ (by rfl) Tryz.func106 (by kernel_rfl) (by rfl) (by rfl) (Jg) (.cons (kc 2 82) (.cons (kc 6 86) (.cons (kc 10 90) .nil))) ((Wk P Q G H pp aa hQ h1 hpQ haQ))
       ·exact fun _=>Jl _ 109 _ _ [.tmp 80,.tmp 81,.tmp 91] _ _ _ _ _ _ _ (by rfl) Tryz.func109 (by kernel_rfl) (by rfl) (by rfl) (Jg) (.cons (kc 0 80) (.cons (kc 1 81) (.cons (kc 12 91) .nil))) ((Jbw P Q G H 0 (pp*aa%Q) hQ h1 (by omega) hTQ))
      intro gs rs a w hgs hrs F HM HBW HR HO HT
      obtain rfl:=nl0 rs hrs
      obtain ⟨gx,rfl⟩:=nl1 gs hgs
      clear hrs hgs HR HBW HO
      clear HT
      refine Kn (i:=14) HM (by kernel_rfl) (by rfl) rfl rfl (k:=0) rfl (Jq (F.ev rfl) (F.ev rfl) (HM.get 0 rfl)) (M2:=[(gx,24,ncs (((0+Q-pp*aa%Q)%Q))),(gp,24,cq),(go,24,co),(gg,26,gcs P Q G H)]) (rfl) (fun _ h=>h.subl (by first | exact List.Sublist.refl _ | (repeat (first | exact List.Sublist.refl _ | refine List.Sublist.cons_cons _ ?_ | refine List.Sublist.cons _ ?_)))) fun w HM=>?_
      refine Ks (by kernel_rfl) ?_ _
      by_cases hm10:0<m1
      ·refine Kgr ?_
       refine lxv (.int .i64 (m1:Nat)) F (Jb (F.ev rfl)) fun a F=>?_
       refine lxv (.bool true) F (Jz (u:=.int .i64 (m1:Nat)) (v:=.int .i64 0) (fun ρ hx hy=>by simp only [execOp,hx,hy];simp [go_sem];omega) (F.ev rfl) rfl) fun a F=>?_
       refine Jc ?_
       refine Kgq ?_
       refine wp_cond_true (F.ev rfl) ?_
       have hgn:(ps.take (m1+1)++(Jfr Q aa 0 ps).drop (m1+1))[m1-1]? = some ps[m1-1]:=by rw [fold_get _ _ _ _ (by omega) (by omega)];exact List.getElem?_eq_getElem (by omega)
       have hpp2:ps.getD (m1-1) 0=ps[m1-1]:=by simp [List.getD,List.getElem?_eq_getElem (show m1-1<ps.length by omega)]
       rw [if_neg (by omega),hpp2] at hmq
       have hrQ:=hpb2 _ (List.getElem_mem (show m1-1<ps.length by omega))
       generalize ps[m1-1]=rr at *
       have hidx:((m1:Int)-1)=((m1-1:Nat):Int):=by omega
       refine Kgq ?_
       refine Kg (S:=fun _=>True) HM (fun _ h=>trivial) (by kernel_rfl) fun w HM HBW=>?_
       clear HBW
       try simp only [List.append_eq,List.cons_append,List.nil_append]
       refine Kt [⟨0,95,[],.val (grp P Q G H),false⟩,
   ⟨1,96,[],.val (num (((0+Q-pp*aa%Q)%Q))),false⟩,
   ⟨2,97,[],.val (.slice (some ⟨gp,0,none⟩) n n),true⟩,
   ⟨3,98,[],.val (.int .i64 (m1:Nat)),true⟩,
   ⟨4,99,[3],.val (.int .i64 ((m1:Int)-1)),true⟩,
   ⟨5,100,[2,4],.val (.pointer (some ⟨gp,0+(m1-1)*4,none⟩)),true⟩,
   ⟨6,101,[5],.val (num rr),false⟩,
   ⟨7,102,[0,1,6],.val (num ((((0+Q-pp*aa%Q)%Q+rr)%Q))),false⟩] 1 _ F HM (fun _ _=>trivial) (by kernel_rfl) (by rfl) ?_ ?_ ?_ ?_ ?_ ?_ ?_
       ·kernel_rfl
       ·exact of_decide_eq_true (by kernel_rfl)
       ·(repeat refine all_cons ⟨_,by rfl,by rfl⟩ ?_);exact all_nil
       ·kernel_rfl
       ·(repeat (refine all_cons ?_ ?_;rotate_left));exact all_nil
        all_goals try exact Jm _ (by rfl)
        ·exact Wt _ _ _ _ _ _ _ (by rfl) (by rfl) Jg (fun ρ w kn hs=>Jb (kn _ _ (F.old (by rfl) rfl)))
        ·exact Wt _ _ _ _ _ _ _ (by rfl) (by rfl) Jg (fun ρ w kn hs=>Jb (kn _ _ (F.old (by rfl) rfl)))
        ·exact Wt _ _ _ _ _ _ _ (by rfl) (by rfl) Jg (fun ρ w kn hs=>Jz (u:=.int .i64 (m1:Nat)) (v:=.int .i64 1) (fun ρ hx hy=>by simp only [execOp,hx,hy];simp [go_sem,hsb]) (kn _ _ (kc 3 98)) (kn _ _ (Ji _)))
        ·exact Wt _ _ _ _ _ _ _ (by rfl) (by rfl) Jg (fun ρ w kn hs=>Kv (i:=m1-1) (l:=n) (by omega) (kn _ _ (kc 2 97)) (by rw [← hidx];exact (kn _ _ (kc 4 99))))
       ·(repeat (refine all_cons ?_ ?_;rotate_left));exact all_nil
        all_goals try exact sA
        ·exact fun _=>Um _ _ _ _ _ _ (by rfl) (by rfl) (fun ρ w kn hb=>Js (kn _ _ (F.old (by rfl) rfl)) ((HM.on hb).get 3 rfl))
        ·exact fun _=>Um _ _ _ _ _ _ (by rfl) (by rfl) (fun ρ w kn hb=>Jp (kn _ _ (F.old (by rfl) rfl)) ((HM.on hb).get 0 rfl))
        ·exact fun _=>Um _ _ _ _ _ _ (by rfl) (by rfl) (fun ρ w kn hb=>Kh (kn _ _ (kc 5 100)) (hcq.c4 ((HM.on hb).get 1 rfl) hgn))
        ·exact fun _=>Jl _ 105 _ _ [.tmp 95,.tmp 96,.tmp 101] _ _ _ _ _ _ _ (by rfl) Tryz.func105 (by kernel_rfl) (by rfl) (by rfl) (Jg) (.cons (kc 0 95) (.cons (kc 1 96) (.cons (kc 6 101) .nil))) ((Jer P Q G H ((0+Q-pp*aa%Q)%Q) rr hQ h1 hDQ hrQ))
       intro gs rs a w hgs hrs F HM HBW HR HO HT
       obtain rfl:=nl0 rs hrs
       obtain rfl:=nl0 gs hgs
       clear hrs hgs HR HBW HO
       clear HT
       refine Kn (i:=8) HM (by kernel_rfl) (by rfl) rfl rfl (k:=0) rfl (Jq (F.ev rfl) (F.ev rfl) (HM.get 0 rfl)) (M2:=[(gx,24,ncs ((((0+Q-pp*aa%Q)%Q+rr)%Q))),(gp,24,cq),(go,24,co),(gg,26,gcs P Q G H)]) (rfl) (fun _ _=>trivial) fun w HM=>?_
       refine Ks (by kernel_rfl) ?_ _
       refine Kgr ?_
       refine lxv (.slice (some ⟨gp,0,none⟩) n n) F (Jb (F.ev rfl)) fun a F=>?_
       refine lxv (.int .i64 (m1:Nat)) F (Jb (F.ev rfl)) fun a F=>?_
       refine lxv (num ((((0+Q-pp*aa%Q)%Q+rr)%Q))) F (Jp (F.ev rfl) (HM.get 0 rfl)) fun a F=>?_
       refine lxv (.pointer (some ⟨gp,0+m1*4,none⟩)) F (Kv hm1 (F.ev rfl) (F.ev rfl)) fun a F=>?_
       refine Jv F HM (Ja rfl _) rfl (k:=1) rfl (Xl (F.ev rfl) (F.ev rfl) (HM.get 1 rfl) (hcq.room (by rw [hll];exact hm1))) (M2:=[(gx,24,ncs ((((0+Q-pp*aa%Q)%Q+rr)%Q))),(gp,24,((setC cq m1 (((0+Q-pp*aa%Q)%Q+rr)%Q)))),(go,24,co),(gg,26,gcs P Q G H)]) (rfl) fun w HM=>?_
       refine Jc ?_
       replace HM:=HM.erase 0 (M2:=[(gp,24,((setC cq m1 (((0+Q-pp*aa%Q)%Q+rr)%Q)))),(go,24,co),(gg,26,gcs P Q G H)]) rfl
       refine Kgr ?_
       refine lxv (.int .i64 (m1:Nat)) F (Jb (F.ev rfl)) fun a F=>?_
       refine lxv (.int .i64 ((m1:Int)-1)) F (Jz (u:=.int .i64 (m1:Nat)) (v:=.int .i64 1) (fun ρ hx hy=>by simp only [execOp,hx,hy];simp [go_sem,hsb]) (F.ev rfl) rfl) fun a F=>?_
       refine lxv (.int .i64 ((m1:Int)-1)) F (Je (F.ev rfl)) fun a F=>?_
       refine Jc ?_
       refine Ku ?_
       refine ⟨⟨m1,_,_,rfl,by omega,by rw [← fold_set ps (Jfr Q aa 0 ps) m1 _ hm1p hmq (Ww _ _ _ _)];exact hcq.setC (by rw [hll];exact hm1) _,F.sub [14,13,12,9,8,1,2,3],HM⟩,?_⟩
       ·show (intOf (a.tmps.getD 14 undef)+1).toNat<(intOf (aU.tmps.getD 14 undef)+1).toNat
        rw [F.get 14 _ rfl,FU.get 14 _ rfl]
        show ((m1:Int)-1+1).toNat<((m1:Int)+1).toNat
        omega
      ·refine Kgr ?_
       refine lxv (.int .i64 (m1:Nat)) F (Jb (F.ev rfl)) fun a F=>?_
       refine lxv (.bool false) F (Jz (u:=.int .i64 (m1:Nat)) (v:=.int .i64 0) (fun ρ hx hy=>by simp only [execOp,hx,hy];simp [go_sem];omega) (F.ev rfl) rfl) fun a F=>?_
       refine Jc ?_
       refine Kgq ?_
       refine wp_cond_false (F.ev rfl) ?_
       rw [if_pos (by omega),Nat.add_zero,Nat.mod_eq_of_lt hDQ] at hmq
       refine Kgr ?_
       refine lxv (.slice (some ⟨gp,0,none⟩) n n) F (Jb (F.ev rfl)) fun a F=>?_
       refine lxv (.int .i64 (m1:Nat)) F (Jb (F.ev rfl)) fun a F=>?_
       refine lxv (num (((0+Q-pp*aa%Q)%Q))) F (Jp (F.ev rfl) (HM.get 0 rfl)) fun a F=>?_
       refine lxv (.pointer (some ⟨gp,0+m1*4,none⟩)) F (Kv hm1 (F.ev rfl) (F.ev rfl)) fun a F=>?_
       refine Jv F HM (Ja rfl _) rfl (k:=1) rfl (Xl (F.ev rfl) (F.ev rfl) (HM.get 1 rfl) (hcq.room (by rw [hll];exact hm1))) (M2:=[(gx,24,ncs (((0+Q-pp*aa%Q)%Q))),(gp,24,((setC cq m1 ((0+Q-pp*aa%Q)%Q)))),(go,24,co),(gg,26,gcs P Q G H)]) (rfl) fun w HM=>?_
       refine Jc ?_
       replace HM:=HM.erase 0 (M2:=[(gp,24,((setC cq m1 ((0+Q-pp*aa%Q)%Q)))),(go,24,co),(gg,26,gcs P Q G H)]) rfl
       refine Kgr ?_
       refine lxv (.int .i64 (m1:Nat)) F (Jb (F.ev rfl)) fun a F=>?_
       refine lxv (.int .i64 ((m1:Int)-1)) F (Jz (u:=.int .i64 (m1:Nat)) (v:=.int .i64 1) (fun ρ hx hy=>by simp only [execOp,hx,hy];simp [go_sem,hsb]) (F.ev rfl) rfl) fun a F=>?_
       refine lxv (.int .i64 ((m1:Int)-1)) F (Je (F.ev rfl)) fun a F=>?_
       refine Jc ?_
       refine Ku ?_
       refine ⟨⟨m1,_,_,rfl,by omega,by rw [← fold_set ps (Jfr Q aa 0 ps) m1 _ hm1p hmq (Ww _ _ _ _)];exact hcq.setC (by rw [hll];exact hm1) _,F.sub [14,13,12,9,8,1,2,3],HM⟩,?_⟩
       ·show (intOf (a.tmps.getD 14 undef)+1).toNat<(intOf (aU.tmps.getD 14 undef)+1).toNat
        rw [F.get 14 _ rfl,FU.get 14 _ rfl]
        show ((m1:Int)-1+1).toNat<((m1:Int)+1).toNat
        omega
   ·refine Kgr ?_
    refine lxv (.int .i64 (k:Nat)) F (Jb (F.ev rfl)) fun a F=>?_
    refine lxv (.slice pa n cap) F (Jb (F.ev rfl)) fun a F=>?_
    refine lxv (.int .i64 (n:Nat)) F (Ko (F.ev rfl)) fun a F=>?_
    refine lxv (.bool false) F (Jz (u:=.int .i64 (k:Nat)) (v:=.int .i64 (n:Nat)) (fun ρ hx hy=>by simp only [execOp,hx,hy];simp [go_sem];omega) (F.ev rfl) (F.ev rfl)) fun a F=>?_
    refine Jc ?_
    refine Kgq ?_
    refine wp_cond_false (F.ev rfl) ?_
    refine Kgq ?_
    refine wp_exit ?_
    repeat (first | refine Kk ?_ | refine Kd ?_)
    rw [show k=n by omega,List.take_of_length_le (Nat.le_of_eq r.1)] at hpv
    refine Kgr ?_
    refine lxv (.int .i64 0) F (Je rfl) fun a F=>?_
    refine Jc ?_
    refine Kgq ?_
    have hlen2:os.length=ps.length:=hol.trans hpl.symm
    refine wp_loop (fun a w=>∃ (tt:Nat) (cs:Array Value),tt≤n∧Pf cs ((os.zipWith (fun a b=>(a+b)%Q) ps).take tt++os.drop tt)∧Fr a 127 [(16,.int .i64 (tt:Nat)),(12,.slice (some ⟨gp,0,none⟩) n n),(9,.int .i64 (i:Nat)),(8,.slice (some ⟨go,0,none⟩) n n),(1,.slice pa n cap),(2,.slice pb m capv),(3,.pointer (some ⟨gg,0,none⟩))] []∧Mem w0.heap.size w0 w [(gp,24,cp),(go,24,cs),(gg,26,gcs P Q G H)]) (fun a _=>n-(intOf (a.tmps.getD 16 undef)).toNat) ⟨0,co,Nat.zero_le _,by simpa using hco,F.sub [16,12,9,8,1,2,3],HM⟩ ?_
    clear F HM FT
    rintro aV wV ⟨tt,cs,ht,hcs,FV,HM⟩
    have F:=FV
    by_cases hlt2:tt<n
    ·refine Kgr ?_
     refine lxv (.int .i64 (tt:Nat)) F (Jb (F.ev rfl)) fun a F=>?_
     refine lxv (.slice pa n cap) F (Jb (F.ev rfl)) fun a F=>?_
     refine lxv (.int .i64 (n:Nat)) F (Ko (F.ev rfl)) fun a F=>?_
     refine lxv (.bool true) F (Jz (u:=.int .i64 (tt:Nat)) (v:=.int .i64 (n:Nat)) (fun ρ hx hy=>by simp only [execOp,hx,hy];simp [go_sem];omega) (F.ev rfl) (F.ev rfl)) fun a F=>?_
     refine Jc ?_
     refine Kgq ?_
     refine wp_cond_true (F.ev rfl) ?_
     have hwt:=r.room hlt2
     have hto:tt<os.length:=by omega
     have htp:tt<ps.length:=by omega
     have hzl:(os.zipWith (fun a b=>(a+b)%Q) ps).length=n:=by simp [hol,hpl]
     have hll:((os.zipWith (fun a b=>(a+b)%Q) ps).take tt++os.drop tt).length=n:=by rw [List.length_append,List.length_take,List.length_drop];omega
     have hgo:((os.zipWith (fun a b=>(a+b)%Q) ps).take tt++os.drop tt)[tt]? = some os[tt]:=by rw [List.getElem?_append_right (by rw [List.length_take];omega),List.getElem?_drop,List.length_take,show tt+(tt-min tt (os.zipWith (fun a b=>(a+b)%Q) ps).length)=tt by omega];exact List.getElem?_eq_getElem hto
     have hgp:ps[tt]? = some ps[tt]:=List.getElem?_eq_getElem htp
     have hpg:=padd_get Q os ps hlen2 tt hto
     have hoQ:=hob _ (List.getElem_mem hto)
     have hpQ:=hpb2 _ (List.getElem_mem htp)
     generalize os[tt]=oo at *
     generalize ps[tt]=pp at *
     refine Kgq ?_
     refine Kg (S:=fun _=>True) HM (fun _ h=>trivial) (by kernel_rfl) fun w HM HBW=>?_
     clear HBW
     try simp only [List.append_eq,List.cons_append,List.nil_append]
     refine Kt [⟨0,113,[],.val (.slice (some ⟨go,0,none⟩) n n),true⟩,
   ⟨1,114,[],.val (.int .i64 (tt:Nat)),true⟩,
   ⟨2,115,[],.val (grp P Q G H),false⟩,
   ⟨3,116,[],.val (.slice (some ⟨go,0,none⟩) n n),true⟩,
   ⟨4,117,[],.val (.int .i64 (tt:Nat)),true⟩,
   ⟨5,118,[3,4],.val (.pointer (some ⟨go,0+tt*4,none⟩)),true⟩,
   ⟨6,119,[5],.val (num oo),false⟩,
   ⟨7,120,[],.val (.slice (some ⟨gp,0,none⟩) n n),true⟩,
   ⟨8,121,[],.val (.int .i64 (tt:Nat)),true⟩,
   ⟨9,122,[7,8],.val (.pointer (some ⟨gp,0+tt*4,none⟩)),true⟩,
   ⟨10,123,[9],.val (num pp),false⟩,
   ⟨12,125,[0,1],.val (.pointer (some ⟨go,0+tt*4,none⟩)),true⟩,
   ⟨11,124,[2,6,10],.val (num (((oo+pp)%Q))),false⟩] 1 _ F HM (fun _ _=>trivial) (by kernel_rfl) (by rfl) ?_ ?_ ?_ ?_ ?_ ?_ ?_
     ·kernel_rfl
     ·exact of_decide_eq_true (by kernel_rfl)
     ·(repeat refine all_cons ⟨_,by rfl,by rfl⟩ ?_);exact all_nil
     ·kernel_rfl
     ·(repeat (refine all_cons ?_ ?_;rotate_left));exact all_nil
      all_goals try exact Jm _ (by rfl)
      ·exact Wt _ _ _ _ _ _ _ (by rfl) (by rfl) Jg (fun ρ w kn hs=>Jb (kn _ _ (F.old (by rfl) rfl)))
      ·exact Wt _ _ _ _ _ _ _ (by rfl) (by rfl) Jg (fun ρ w kn hs=>Jb (kn _ _ (F.old (by rfl) rfl)))
      ·exact Wt _ _ _ _ _ _ _ (by rfl) (by rfl) Jg (fun ρ w kn hs=>Jb (kn _ _ (F.old (by rfl) rfl)))
      ·exact Wt _ _ _ _ _ _ _ (by rfl) (by rfl) Jg (fun ρ w kn hs=>Jb (kn _ _ (F.old (by rfl) rfl)))
      ·exact crS (fun ρ w kn hs=>Kv hlt2 (kn _ _ (kc 3 116)) (kn _ _ (kc 4 117)))
      ·exact Wt _ _ _ _ _ _ _ (by rfl) (by rfl) Jg (fun ρ w kn hs=>Jb (kn _ _ (F.old (by rfl) rfl)))
      ·exact Wt _ _ _ _ _ _ _ (by rfl) (by rfl) Jg (fun ρ w kn hs=>Jb (kn _ _ (F.old (by rfl) rfl)))
      ·exact crS (fun ρ w kn hs=>Kv hlt2 (kn _ _ (kc 7 120)) (kn _ _ (kc 8 121)))
      ·exact crS (fun ρ w kn hs=>Kv hlt2 (kn _ _ (kc 0 113)) (kn _ _ (kc 1 114)))
     ·(repeat (refine all_cons ?_ ?_;rotate_left));exact all_nil
      all_goals try exact sA
      ·exact fun _=>Um _ _ _ _ _ _ (by rfl) (by rfl) (fun ρ w kn hb=>Js (kn _ _ (F.old (by rfl) rfl)) ((HM.on hb).get 2 rfl))
      ·exact fun _=>Um _ _ _ _ _ _ (by rfl) (by rfl) (fun ρ w kn hb=>Kh (kn _ _ (kc 5 118)) (hcs.c4 ((HM.on hb).get 1 rfl) hgo))
      ·exact fun _=>Um _ _ _ _ _ _ (by rfl) (by rfl) (fun ρ w kn hb=>Kh (kn _ _ (kc 9 122)) (hcp.c4 ((HM.on hb).get 0 rfl) hgp))
      ·exact fun _=>Jl _ 105 _ _ [.tmp 115,.tmp 119,.tmp 123] _ _ _ _ _ _ _ (by rfl) Tryz.func105 (by kernel_rfl) (by rfl) (by rfl) (Jg) (.cons (kc 2 115) (.cons (kc 6 119) (.cons (kc 10 123) .nil))) ((Jer P Q G H oo pp hQ h1 hoQ hpQ))
     intro gs rs a w hgs hrs F HM HBW HR HO HT
     obtain rfl:=nl0 rs hrs
     obtain rfl:=nl0 gs hgs
     clear hrs hgs HR HBW HO
     clear HT
     refine Kn (i:=13) HM (by kernel_rfl) (by rfl) rfl rfl (k:=1) rfl (Xl (F.ev rfl) (F.ev rfl) (HM.get 1 rfl) (hcs.room (by rw [hll];exact hlt2))) (M2:=[(gp,24,cp),(go,24,((setC cs tt ((oo+pp)%Q)))),(gg,26,gcs P Q G H)]) (rfl) (fun _ _=>trivial) fun w HM=>?_
     refine Ks (by kernel_rfl) ?_ _
     refine Kgr ?_
     refine lxv (.int .i64 (tt:Nat)) F (Jb (F.ev rfl)) fun a F=>?_
     refine lxv (.int .i64 ((tt+1:Nat):Int)) F (Jz (u:=.int .i64 (tt:Nat)) (v:=.int .i64 1) (fun ρ hx hy=>by simp only [execOp,hx,hy];simp [go_sem,hwt]) (F.ev rfl) rfl) fun a F=>?_
     refine lxv (.int .i64 ((tt+1:Nat):Int)) F (Je (F.ev rfl)) fun a F=>?_
     refine Jc ?_
     refine Ku ?_
     refine ⟨⟨tt+1,_,by omega,by rw [hpg];exact hcs.setC (by rw [hll];exact hlt2) _,F.sub [16,12,9,8,1,2,3],HM⟩,?_⟩
     ·show n-(intOf (a.tmps.getD 16 undef)).toNat<n-(intOf (aV.tmps.getD 16 undef)).toNat
      rw [F.get 16 _ rfl,FV.get 16 _ rfl]
      show n-((tt+1:Nat):Int).toNat<n-((tt:Nat):Int).toNat
      omega
    ·refine Kgr ?_
     refine lxv (.int .i64 (tt:Nat)) F (Jb (F.ev rfl)) fun a F=>?_
     refine lxv (.slice pa n cap) F (Jb (F.ev rfl)) fun a F=>?_
     refine lxv (.int .i64 (n:Nat)) F (Ko (F.ev rfl)) fun a F=>?_
     refine lxv (.bool false) F (Jz (u:=.int .i64 (tt:Nat)) (v:=.int .i64 (n:Nat)) (fun ρ hx hy=>by simp only [execOp,hx,hy];simp [go_sem];omega) (F.ev rfl) (F.ev rfl)) fun a F=>?_
     refine Jc ?_
     refine Kgq ?_
     refine wp_cond_false (F.ev rfl) ?_
     refine Kgq ?_
     refine wp_exit ?_
     repeat (first | refine Kk ?_ | refine Kd ?_)
     rw [List.take_of_length_le (by simp [hol,hpl];omega),List.drop_of_length_le (by omega),List.append_nil] at hcs
     replace HM:=HM.erase 0 (M2:=[(go,24,cs),(gg,26,gcs P Q G H)]) rfl
     refine Kgr ?_
     refine lxv (.int .i64 (i:Nat)) F (Jb (F.ev rfl)) fun a F=>?_
     refine lxv (.int .i64 ((i+1:Nat):Int)) F (Jz (u:=.int .i64 (i:Nat)) (v:=.int .i64 1) (fun ρ hx hy=>by simp only [execOp,hx,hy];simp [go_sem,hwr]) (F.ev rfl) rfl) fun a F=>?_
     refine lxv (.int .i64 ((i+1:Nat):Int)) F (Je (F.ev rfl)) fun a F=>?_
     refine Jc ?_
     refine Ku ?_
     refine ⟨⟨i+1,cs,(os.zipWith (fun a b=>(a+b)%Q) ps),by omega,hcs,by simp [hol,hpl],fun c hc=>?_,fun j xj vj hxj hvj=>?_,fun j xj hj hxj=>?_,F.sub [9,8,1,2,3],HM⟩,?_⟩
     ·rw [List.mem_iff_getElem?] at hc
      obtain ⟨q,hq⟩:=hc
      rw [List.getElem?_zipWith] at hq
      split at hq
      ·cases hq;exact Nat.mod_lt _ (by omega)
      ·cases hq
     ·refine (padd_ev (xj:Int) os ps hlen2).trans (((hov j xj vj hxj hvj).add (hpv (xj:Int))).trans ?_)
      by_cases ej:j=i
      ·subst ej
       rw [hgx] at hxj;cases hxj
       rw [hgv] at hvj;cases hvj
       rw [if_neg (Nat.lt_irrefl _),if_pos (Nat.lt_succ_self _)]
       refine ((Cg.refl Q 0).add (oth_unit hVx)).trans (Cg.of_eq (by omega))
      ·have h0:prZ (xj:Int) ((zs xs).eraseIdx i)=0:=oth_mem (Q:=Q) ej hxj
       rw [h0,Int.mul_zero,Int.add_zero]
       by_cases hji:j<i
       ·rw [if_pos hji,if_pos (by omega)];exact Cg.refl _ _
       ·rw [if_neg hji,if_neg (by omega)];exact Cg.refl _ _
     ·by_cases ej:j=i
      ·subst ej;rw [hgx] at hxj;cases hxj;exact ⟨_,(Cg.of_eq (Int.mul_comm _ _)).trans hVx⟩
      ·exact hou j xj (by omega) hxj
     ·show n-(intOf (a.tmps.getD 9 undef)).toNat<n-(intOf (aS.tmps.getD 9 undef)).toNat
      rw [F.get 9 _ rfl,FS9]
      show n-((i+1:Nat):Int).toNat<n-((i:Nat):Int).toNat
      omega
 ·refine Kgr ?_
  refine lxv (.int .i64 (i:Nat)) F (Jb (F.ev rfl)) fun a F=>?_
  refine lxv (.slice pa n cap) F (Jb (F.ev rfl)) fun a F=>?_
  refine lxv (.int .i64 (n:Nat)) F (Ko (F.ev rfl)) fun a F=>?_
  refine lxv (.bool false) F (Jz (u:=.int .i64 (i:Nat)) (v:=.int .i64 (n:Nat)) (fun ρ hx hy=>by simp only [execOp,hx,hy];simp [go_sem];omega) (F.ev rfl) (F.ev rfl)) fun a F=>?_
  refine Jc ?_
  refine Kgq ?_
  refine wp_cond_false (F.ev rfl) ?_
  refine Kgq ?_
  refine wp_exit ?_
  repeat (first | refine Kk ?_ | refine Kd ?_)
  have hin:i=n:=by omega
  refine Kgr ?_
  refine lxv (.slice (some ⟨go,0,none⟩) n n) F (Jb (F.ev rfl)) fun a F=>?_
  refine lxv (.slice (some ⟨go,0,none⟩) n n) F (Je (F.ev rfl)) fun a F=>?_
  refine lxv (.int .i64 0) F (Je rfl) fun a F=>?_
  refine Jc ?_
  have hAU:Jii Q xs:=fun j x hx=>hou j x (by rw [hin,← r.1];exact (List.getElem?_eq_some_iff.1 hx).1) hx
  refine Kgq ?_
  refine wp_ret ?_
  repeat (first | refine Jt ?_ | refine Jo ?_)
  exact bodyPost_ret (Jaa F (s:=6) (t:=7) rfl rfl rfl) F.defers ⟨fun _=>⟨_,n,os,rfl,HM.bel,hco.rsA (HM.get 0 rfl) hol (Nat.le_refl _) (by omega) (fun c hc=>Nat.lt_trans (hob c hc) hQ),hol.trans r.1.symm,hob,fun j x v hx hv=>by have:=hov j x v hx hv;rwa [if_pos (by rw [hin,← r.1];exact (List.getElem?_eq_some_iff.1 hx).1)] at this⟩,fun h=>absurd (allD_U.2 hAU) h⟩

end Go.Proofs.YtmmgmljkmmgjdaaGreatDoor
