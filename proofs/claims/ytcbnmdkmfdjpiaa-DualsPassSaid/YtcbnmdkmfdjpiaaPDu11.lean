import Derived.Deep.Cut
import Derived.Test.YtcbnmdkmfdjpiaaPDu10
import Derived.Test.YtcbnmdkmfdjpiaaPShort
namespace Go.Proofs.Ytcbnmdkmfdjpiaa
set_option maxRecDepth 100000
open Go.RowKit
set_option linter.unusedSimpArgs false
set_option linter.unusedVariables false
attribute [local go_sem ↓] Go.wp_at_zero Go.wp_at_succ

theorem Jcl {dst:Option Tmp} {ty:TypeId} {pos:String} {after:Array Edge} {guard:Option (Nat × Bool)} {ρ:Operand→Value} {w:World} {a:Nat} (ha:ρ (.const (.int .u64 (a:Nat)))=.int .u64 (a:Nat)):(execOp ρ ⟨dst,.buildSlice 69 1 #[(0,.const (.int .u64 (a:Nat)))],ty,pos,after,guard⟩).run Try.prog w=.ok (.value (.slice (some ⟨w.heap.size,0,none⟩) 1 1)) (w.alloc (.cells (us [a]) 22)):=by
 have h:(execOp ρ ⟨dst,.buildSlice 69 1 #[(0,.const (.int .u64 (a:Nat)))],ty,pos,after,guard⟩).run Try.prog w=.ok (.value (.slice (some ⟨w.heap.size,0,none⟩) 1 1)) (w.alloc (.cells #[.int .u64 (a:Nat)] 22)):=by simp [execOp,ha,go_sem]
 exact h
theorem k_p1 (a:Option Addr) (c:Nat) (w:World) (r:RN w.heap.size w a 3 c [3,5,7]):Calls Try.prog 9 #[grp 23 11 4 9,.slice a 3 c,.int .i64 2] w fun e w'=>e=.returned (.tuple #[.bool true,.int .i64 0])∧Below w.heap.size w w':=
 Jdh g23 9 3 c 2 a [3,5,7] [1,2,0] w (by decide) (by decide) (by decide) (by decide) r rfl (by decide) (fun x hx=>Cg.of_mod ((by decide:∀ x,x<3→(evZ (zs [1,2,0]) ((x+1:Nat):Int))%((11:Nat):Int)=(([3,5,7].getD x 0:Nat):Int)%((11:Nat):Int)) x hx))
  ⟨fun _ i h1 h2=>(by obtain rfl:i=2:=(by omega);rfl),fun _=>rfl⟩
theorem k_p2 (a:Option Addr) (c:Nat) (w:World) (r:RN w.heap.size w a 3 c [3,5,8]):Calls Try.prog 9 #[grp 23 11 4 9,.slice a 3 c,.int .i64 2] w fun e w'=>e=.returned (.tuple #[.bool false,.int .i64 0])∧Below w.heap.size w w':=
 Jdh g23 9 3 c 2 a [3,5,8] [2,6,6] w (by decide) (by decide) (by decide) (by decide) r rfl (by decide) (fun x hx=>Cg.of_mod ((by decide:∀ x,x<3→(evZ (zs [2,6,6]) ((x+1:Nat):Int))%((11:Nat):Int)=(([3,5,8].getD x 0:Nat):Int)%((11:Nat):Int)) x hx))
  ⟨fun h=>(by cases h),fun h=>absurd (h 2 (by decide) (by decide)) (by decide)⟩
theorem k_p3 (a:Option Addr) (c:Nat) (w:World) (r:RN w.heap.size w a 1 c [1]):Calls Try.prog 9 #[grp 23 11 4 9,.slice a 1 c,.int .i64 2] w fun e w'=>e=.returned (.tuple #[.bool false,.int .i64 1])∧Below w.heap.size w w':=
 passes_any 23 11 4 9 1 c a [1] 2 false 1 w (by decide) (by decide) (by decide) (by decide) r fun a c u ru=>chk_b3 23 11 4 9 1 c a _ 2 u (by decide) ru (by decide) (by decide) (by decide)
set_option maxRecDepth 100000 in
set_option maxHeartbeats 4000000 in
theorem Vk (w:World):Calls Try.prog 6 #[] w fun e w'=>e=.returned (.bool true)∧Below w.heap.size w w':=by
 refine Kc (args:=[]) Try.func6 rfl Try.ntmps6 (by rfl) fun a F HM=>?_
 refine Kgr ?_
 refine lxv (.bool false) F (Jg rfl) fun a F=>?_
 refine Jf ?_
 refine Kgr ?_
 refine Jr F (Ja rfl _) rfl (by rfl) (Ji Try.func14 (by kernel_rfl) (by rfl) .nil _) (known8_any _) fun a w z F=>?_
 replace HM:=HM.on z
 clear z
 refine Jn F HM (Ja rfl _) rfl (by rfl) (o_allocG) fun a w gg F HM=>?_
 refine Ju F HM (Ja rfl _) rfl (k:=0) rfl (o_storeG (F.ev rfl) (F.ev rfl) (HM.get 0 rfl)) (M2:=[(gg,26,gcs 23 11 4 9)]) (rfl) fun w HM=>?_
 refine Jf ?_
 refine Kgq ?_
 refine Ks (S:=fun _=>True) HM (fun _ h=>trivial) (by kernel_rfl) fun w HM HBW=>?_
 clear HBW
 try simp only [List.append_eq,List.cons_append,List.nil_append]
 refine Kw [⟨0,16,[],.val (grp 23 11 4 9),false⟩,
   ⟨1,17,[],.row 22 (us [1]) 1,false⟩,
   ⟨2,18,[1],.two 1 (qOf 1 [1]) (Vx 1 [1]),false⟩] 6 _ F HM (fun _ _=>trivial) (by kernel_rfl) (by rfl) ?_ ?_ ?_ ?_ ?_ ?_ ?_
 ·kernel_rfl
 ·exact of_decide_eq_true (by kernel_rfl)
 ·(repeat refine all_cons ⟨_,by rfl,by rfl⟩ ?_);exact Jj
 ·kernel_rfl
 ·(repeat (refine all_cons ?_ ?_;rotate_left));exact Jj
  all_goals try exact Jq _ (by rfl)
 ·(repeat (refine all_cons ?_ ?_;rotate_left));exact Jj
  ·exact fun _=>Jbf _ _ _ _ _ _ (by rfl) (by rfl) (fun ρ w kn hb=>Jy (kn _ _ (F.old (by rfl) rfl)) ((HM.on hb).get 0 rfl))
  ·exact fun _=>Xr _ _ _ _ _ _ _ _ (by rfl) (by rfl) (fun ρ w kn=>Jcl (kn _ _ (Je _)))
  ·intro _
   refine Vm _ 16 _ _ [.tmp 17] _ _ _ _ 1 (qOf 1 [1]) (Vx 1 [1]) (by rfl) Try.func16 (by kernel_rfl) (by rfl) (by rfl) (fun vs w hl hb hp=>?_)
   obtain ⟨g17,he17,hat17⟩:=Jci hl hp 1 17 22 (us [1]) 1 (of_decide_eq_true (by rfl)) (by rfl) (by rfl) (by rfl)
   exact ⟨[.slice (some ⟨g17,0,none⟩) 1 1],(Ue (he17) Vz),Jbn _ 1 1 [1] w hat17 rfl (by decide) (by decide) (by decide)⟩
 intro gs rs a w hgs hrs F HM HBW HR HO HT
 obtain ⟨gr,go1,co1,rfl⟩:=nl3 rs hrs
 obtain rfl:=nl0 gs hgs
 have hatr:=HR _ List.mem_cons_self
 clear hrs hgs HR HBW HO
 obtain ⟨ro1,-⟩:=HT
 refine sx_call1 (i:=3) (args:=#[grp 23 11 4 9,.int .i64 3,.slice (some ⟨go1,0,none⟩) 1 co1]) F (by kernel_rfl) (by rfl) rfl rfl (by rfl) (Ji Try.func15 (by kernel_rfl) (by rfl) (.cons (F.ev rfl) (.cons rfl (.cons (F.ev rfl) .nil))) _) (k_word (some ⟨go1,0,none⟩) co1 w ro1) (fun _ _ _=>trivial) fun a w u hu F=>?_
 obtain ⟨z,gw,cw,cs,rfl,hg,hat,hl1,hl2,hpw⟩:=hu
 have hne:=Jdr HM hg
 have hge:=Nat.le_trans (Nat.le_trans HM.le HM.bel.size) hg
 replace HM:=(HM.on z).add hge (fun x hx=>hne x hx) hat
 clear hne hge hg z hat
 refine Kw [⟨4,15,[],.val (.tuple #[.slice (some ⟨gw,0,none⟩) 3 cw,.int .i64 0]),true⟩,
   ⟨5,20,[0],.val (.slice (some ⟨gw,0,none⟩) 3 cw),true⟩,
   ⟨6,21,[0],.val (.int .i64 0),true⟩] 2 _ F HM (fun _ _=>trivial) (by kernel_rfl) (by rfl) ?_ ?_ ?_ ?_ ?_ ?_ ?_
 ·kernel_rfl
 ·exact of_decide_eq_true (by kernel_rfl)
 ·(repeat refine all_cons ⟨_,by rfl,by rfl⟩ ?_);exact Jj
 ·kernel_rfl
 ·(repeat (refine all_cons ?_ ?_;rotate_left));exact Jj
  ·exact Ug _ _ _ _ _ _ _ (by rfl) (by rfl) Jh (fun ρ w kn hs=>Jc (kn _ _ (F.old (by rfl) rfl)))
  ·exact crS (fun ρ w kn hs=>Jk (kn _ _ (kc 0 15)) rfl)
  ·exact crS (fun ρ w kn hs=>Jk (kn _ _ (kc 0 15)) rfl)
 ·(repeat (refine all_cons ?_ ?_;rotate_left));exact Jj
  all_goals try exact sA
 intro gs rs a w hgs hrs F HM HBW HR HO HT
 obtain rfl:=nl0 rs hrs
 obtain rfl:=nl0 gs hgs
 clear hrs hgs HR HBW HO
 clear HT
 refine Kq (i:=7) (d:=2) (x:=.tmp 20) (v:=.slice (some ⟨gw,0,none⟩) 3 cw) F (trivial) (by kernel_rfl) (by rfl) (by rfl) (F.ev rfl) fun a F=>?_
 refine Kq (i:=8) (d:=3) (x:=.tmp 21) (v:=.int .i64 0) F (trivial) (by kernel_rfl) (by rfl) (by rfl) (F.ev rfl) fun a F=>?_
 refine Ui (by kernel_rfl) ?_ _
 refine Kgq ?_
 refine Ks (S:=fun _=>True) HM (fun _ h=>trivial) (by kernel_rfl) fun w HM HBW=>?_
 clear HBW
 try simp only [List.append_eq,List.cons_append,List.nil_append]
 refine Kw [⟨0,23,[],.val (grp 23 11 4 9),false⟩,
   ⟨1,24,[],.row 22 (us [1,1,1]) 3,false⟩,
   ⟨2,25,[1],.two 3 (qOf 3 [1,1,1]) (Vx 3 [1,1,1]),false⟩,
   ⟨3,26,[0,2],.val (.tuple #[.slice none 0 0,.int .i64 1]),false⟩,
   ⟨4,22,[3],.val (.tuple #[.slice none 0 0,.int .i64 1]),true⟩,
   ⟨5,27,[4],.val (.slice none 0 0),true⟩,
   ⟨6,28,[4],.val (.int .i64 1),true⟩] 2 _ F HM (fun _ _=>trivial) (by kernel_rfl) (by rfl) ?_ ?_ ?_ ?_ ?_ ?_ ?_
 ·kernel_rfl
 ·exact of_decide_eq_true (by kernel_rfl)
 ·(repeat refine all_cons ⟨_,by rfl,by rfl⟩ ?_);exact Jj
 ·kernel_rfl
 ·(repeat (refine all_cons ?_ ?_;rotate_left));exact Jj
  all_goals try exact Jq _ (by rfl)
  ·exact crS (fun ρ w kn hs=>Jc (kn _ _ (kc 3 26)))
  ·exact crS (fun ρ w kn hs=>Jk (kn _ _ (kc 4 22)) rfl)
  ·exact crS (fun ρ w kn hs=>Jk (kn _ _ (kc 4 22)) rfl)
 ·(repeat (refine all_cons ?_ ?_;rotate_left));exact Jj
  all_goals try exact sA
  ·exact fun _=>Jbf _ _ _ _ _ _ (by rfl) (by rfl) (fun ρ w kn hb=>Jy (kn _ _ (F.old (by rfl) rfl)) ((HM.on hb).get 1 rfl))
  ·exact fun _=>Xr _ _ _ _ _ _ _ _ (by rfl) (by rfl) (fun ρ w kn=>Jaw (kn _ _ (Je _)) (kn _ _ (Je _)) (kn _ _ (Je _)))
  ·intro _
   refine Vm _ 16 _ _ [.tmp 24] _ _ _ _ 3 (qOf 3 [1,1,1]) (Vx 3 [1,1,1]) (by rfl) Try.func16 (by kernel_rfl) (by rfl) (by rfl) (fun vs w hl hb hp=>?_)
   obtain ⟨g24,he24,hat24⟩:=Jci hl hp 1 24 22 (us [1,1,1]) 3 (of_decide_eq_true (by rfl)) (by rfl) (by rfl) (by rfl)
   exact ⟨[.slice (some ⟨g24,0,none⟩) 3 3],(Ue (he24) Vz),Jbn _ 3 3 [1,1,1] w hat24 rfl (by decide) (by decide) (by decide)⟩
  ·intro _
   refine Wl _ 15 _ _ [.tmp 23,.const (.int .i64 3),.tmp 25] _ _ _ _ _ (by rfl) Try.func15 (by kernel_rfl) (by rfl) (by rfl) (fun vs w hl hb hp=>?_)
   obtain ⟨g25,c25,he25,r25⟩:=Jdw hl hp 2 25 _ 3 (qOf 3 [1,1,1]) (Vx 3 [1,1,1]) (of_decide_eq_true (by rfl)) (by rfl) (by rfl) (by rfl)
   exact ⟨[grp 23 11 4 9,.int .i64 3,.slice (some ⟨g25,0,none⟩) 3 c25],(Ue ((kc 0 23) vs w hl hp) (Ue (rfl) (Ue (he25) Vz))),word_bad 23 11 4 9 3 c25 _ 3 w (by decide)⟩
 intro gs rs a w hgs hrs F HM HBW HR HO HT
 obtain ⟨gr,go2,co2,rfl⟩:=nl3 rs hrs
 obtain rfl:=nl0 gs hgs
 have hatr:=HR _ List.mem_cons_self
 clear hrs hgs HR HBW HO
 obtain ⟨ro2,-⟩:=HT
 refine Kq (i:=7) (d:=4) (x:=.tmp 27) (v:=.slice none 0 0) F (trivial) (by kernel_rfl) (by rfl) (by rfl) (F.ev rfl) fun a F=>?_
 refine Kq (i:=8) (d:=5) (x:=.tmp 28) (v:=.int .i64 1) F (trivial) (by kernel_rfl) (by rfl) (by rfl) (F.ev rfl) fun a F=>?_
 refine Ui (by kernel_rfl) ?_ _
 refine Kgq ?_
 refine Ks (S:=fun _=>True) HM (fun _ h=>trivial) (by kernel_rfl) fun w HM HBW=>?_
 clear HBW
 try simp only [List.append_eq,List.cons_append,List.nil_append]
 refine Kw [⟨0,30,[],.val (grp 23 11 4 9),false⟩,
   ⟨1,31,[],.row 22 (us [1]) 1,false⟩,
   ⟨2,32,[1],.two 1 (qOf 1 [1]) (Vx 1 [1]),false⟩,
   ⟨3,33,[0,2],.val (.tuple #[.slice none 0 0,.int .i64 1]),false⟩,
   ⟨4,29,[3],.val (.tuple #[.slice none 0 0,.int .i64 1]),true⟩,
   ⟨5,34,[4],.val (.slice none 0 0),true⟩,
   ⟨6,35,[4],.val (.int .i64 1),true⟩] 2 _ F HM (fun _ _=>trivial) (by kernel_rfl) (by rfl) ?_ ?_ ?_ ?_ ?_ ?_ ?_
 ·kernel_rfl
 ·exact of_decide_eq_true (by kernel_rfl)
 ·(repeat refine all_cons ⟨_,by rfl,by rfl⟩ ?_);exact Jj
 ·kernel_rfl
 ·(repeat (refine all_cons ?_ ?_;rotate_left));exact Jj
  all_goals try exact Jq _ (by rfl)
  ·exact crS (fun ρ w kn hs=>Jc (kn _ _ (kc 3 33)))
  ·exact crS (fun ρ w kn hs=>Jk (kn _ _ (kc 4 29)) rfl)
  ·exact crS (fun ρ w kn hs=>Jk (kn _ _ (kc 4 29)) rfl)
 ·(repeat (refine all_cons ?_ ?_;rotate_left));exact Jj
  all_goals try exact sA
  ·exact fun _=>Jbf _ _ _ _ _ _ (by rfl) (by rfl) (fun ρ w kn hb=>Jy (kn _ _ (F.old (by rfl) rfl)) ((HM.on hb).get 1 rfl))
  ·exact fun _=>Xr _ _ _ _ _ _ _ _ (by rfl) (by rfl) (fun ρ w kn=>Jcl (kn _ _ (Je _)))
  ·intro _
   refine Vm _ 16 _ _ [.tmp 31] _ _ _ _ 1 (qOf 1 [1]) (Vx 1 [1]) (by rfl) Try.func16 (by kernel_rfl) (by rfl) (by rfl) (fun vs w hl hb hp=>?_)
   obtain ⟨g31,he31,hat31⟩:=Jci hl hp 1 31 22 (us [1]) 1 (of_decide_eq_true (by rfl)) (by rfl) (by rfl) (by rfl)
   exact ⟨[.slice (some ⟨g31,0,none⟩) 1 1],(Ue (he31) Vz),Jbn _ 1 1 [1] w hat31 rfl (by decide) (by decide) (by decide)⟩
  ·intro _
   refine Wl _ 15 _ _ [.tmp 30,.const (.int .i64 8),.tmp 32] _ _ _ _ _ (by rfl) Try.func15 (by kernel_rfl) (by rfl) (by rfl) (fun vs w hl hb hp=>?_)
   obtain ⟨g32,c32,he32,r32⟩:=Jdw hl hp 2 32 _ 1 (qOf 1 [1]) (Vx 1 [1]) (of_decide_eq_true (by rfl)) (by rfl) (by rfl) (by rfl)
   exact ⟨[grp 23 11 4 9,.int .i64 8,.slice (some ⟨g32,0,none⟩) 1 c32],(Ue ((kc 0 30) vs w hl hp) (Ue (rfl) (Ue (he32) Vz))),word_bad 23 11 4 9 1 c32 _ 8 w (by decide)⟩
 intro gs rs a w hgs hrs F HM HBW HR HO HT
 obtain ⟨gr,go3,co3,rfl⟩:=nl3 rs hrs
 obtain rfl:=nl0 gs hgs
 have hatr:=HR _ List.mem_cons_self
 clear hrs hgs HR HBW HO
 obtain ⟨ro3,-⟩:=HT
 refine Kq (i:=7) (d:=6) (x:=.tmp 34) (v:=.slice none 0 0) F (trivial) (by kernel_rfl) (by rfl) (by rfl) (F.ev rfl) fun a F=>?_
 refine Kq (i:=8) (d:=7) (x:=.tmp 35) (v:=.int .i64 1) F (trivial) (by kernel_rfl) (by rfl) (by rfl) (F.ev rfl) fun a F=>?_
 refine Ui (by kernel_rfl) ?_ _
 refine Kgq ?_
 refine Ks (S:=fun _=>True) HM (fun _ h=>trivial) (by kernel_rfl) fun w HM HBW=>?_
 clear HBW
 try simp only [List.append_eq,List.cons_append,List.nil_append]
 refine Kw [⟨0,37,[],.val (grp 23 11 4 9),false⟩,
   ⟨1,38,[],.row 22 (us [3,5,7]) 3,false⟩,
   ⟨2,39,[1],.two 3 (qOf 3 [3,5,7]) (Vx 3 [3,5,7]),false⟩,
   ⟨3,40,[0,2],.val (.tuple #[.bool true,.int .i64 0]),false⟩,
   ⟨4,36,[3],.val (.tuple #[.bool true,.int .i64 0]),true⟩,
   ⟨5,41,[4],.val (.bool true),true⟩,
   ⟨6,42,[4],.val (.int .i64 0),true⟩] 2 _ F HM (fun _ _=>trivial) (by kernel_rfl) (by rfl) ?_ ?_ ?_ ?_ ?_ ?_ ?_
 ·kernel_rfl
 ·exact of_decide_eq_true (by kernel_rfl)
 ·(repeat refine all_cons ⟨_,by rfl,by rfl⟩ ?_);exact Jj
 ·kernel_rfl
 ·(repeat (refine all_cons ?_ ?_;rotate_left));exact Jj
  all_goals try exact Jq _ (by rfl)
  ·exact crS (fun ρ w kn hs=>Jc (kn _ _ (kc 3 40)))
  ·exact crS (fun ρ w kn hs=>Jk (kn _ _ (kc 4 36)) rfl)
  ·exact crS (fun ρ w kn hs=>Jk (kn _ _ (kc 4 36)) rfl)
 ·(repeat (refine all_cons ?_ ?_;rotate_left));exact Jj
  all_goals try exact sA
  ·exact fun _=>Jbf _ _ _ _ _ _ (by rfl) (by rfl) (fun ρ w kn hb=>Jy (kn _ _ (F.old (by rfl) rfl)) ((HM.on hb).get 1 rfl))
  ·exact fun _=>Xr _ _ _ _ _ _ _ _ (by rfl) (by rfl) (fun ρ w kn=>Jaw (kn _ _ (Je _)) (kn _ _ (Je _)) (kn _ _ (Je _)))
  ·intro _
   refine Vm _ 16 _ _ [.tmp 38] _ _ _ _ 3 (qOf 3 [3,5,7]) (Vx 3 [3,5,7]) (by rfl) Try.func16 (by kernel_rfl) (by rfl) (by rfl) (fun vs w hl hb hp=>?_)
   obtain ⟨g38,he38,hat38⟩:=Jci hl hp 1 38 22 (us [3,5,7]) 3 (of_decide_eq_true (by rfl)) (by rfl) (by rfl) (by rfl)
   exact ⟨[.slice (some ⟨g38,0,none⟩) 3 3],(Ue (he38) Vz),Jbn _ 3 3 [3,5,7] w hat38 rfl (by decide) (by decide) (by decide)⟩
  ·intro _
   refine Wl _ 9 _ _ [.tmp 37,.tmp 39,.const (.int .i64 2)] _ _ _ _ _ (by rfl) Try.func9 (by kernel_rfl) (by rfl) (by rfl) (fun vs w hl hb hp=>?_)
   obtain ⟨g39,c39,he39,r39⟩:=Jdw hl hp 2 39 _ 3 (qOf 3 [3,5,7]) (Vx 3 [3,5,7]) (of_decide_eq_true (by rfl)) (by rfl) (by rfl) (by rfl)
   exact ⟨[grp 23 11 4 9,.slice (some ⟨g39,0,none⟩) 3 c39,.int .i64 2],(Ue ((kc 0 37) vs w hl hp) (Ue (he39) (Ue (rfl) Vz))),k_p1 _ c39 w r39⟩
 intro gs rs a w hgs hrs F HM HBW HR HO HT
 obtain ⟨gr,go4,co4,rfl⟩:=nl3 rs hrs
 obtain rfl:=nl0 gs hgs
 have hatr:=HR _ List.mem_cons_self
 clear hrs hgs HR HBW HO
 obtain ⟨ro4,-⟩:=HT
 refine Kq (i:=7) (d:=8) (x:=.tmp 41) (v:=.bool true) F (trivial) (by kernel_rfl) (by rfl) (by rfl) (F.ev rfl) fun a F=>?_
 refine Kq (i:=8) (d:=9) (x:=.tmp 42) (v:=.int .i64 0) F (trivial) (by kernel_rfl) (by rfl) (by rfl) (F.ev rfl) fun a F=>?_
 refine Ui (by kernel_rfl) ?_ _
 refine Kgq ?_
 refine Ks (S:=fun _=>True) HM (fun _ h=>trivial) (by kernel_rfl) fun w HM HBW=>?_
 clear HBW
 try simp only [List.append_eq,List.cons_append,List.nil_append]
 refine Kw [⟨0,44,[],.val (grp 23 11 4 9),false⟩,
   ⟨1,45,[],.row 22 (us [3,5,8]) 3,false⟩,
   ⟨2,46,[1],.two 3 (qOf 3 [3,5,8]) (Vx 3 [3,5,8]),false⟩,
   ⟨3,47,[0,2],.val (.tuple #[.bool false,.int .i64 0]),false⟩,
   ⟨4,43,[3],.val (.tuple #[.bool false,.int .i64 0]),true⟩,
   ⟨5,48,[4],.val (.bool false),true⟩,
   ⟨6,49,[4],.val (.int .i64 0),true⟩] 2 _ F HM (fun _ _=>trivial) (by kernel_rfl) (by rfl) ?_ ?_ ?_ ?_ ?_ ?_ ?_
 ·kernel_rfl
 ·exact of_decide_eq_true (by kernel_rfl)
 ·(repeat refine all_cons ⟨_,by rfl,by rfl⟩ ?_);exact Jj
 ·kernel_rfl
 ·(repeat (refine all_cons ?_ ?_;rotate_left));exact Jj
  all_goals try exact Jq _ (by rfl)
  ·exact crS (fun ρ w kn hs=>Jc (kn _ _ (kc 3 47)))
  ·exact crS (fun ρ w kn hs=>Jk (kn _ _ (kc 4 43)) rfl)
  ·exact crS (fun ρ w kn hs=>Jk (kn _ _ (kc 4 43)) rfl)
 ·(repeat (refine all_cons ?_ ?_;rotate_left));exact Jj
  all_goals try exact sA
  ·exact fun _=>Jbf _ _ _ _ _ _ (by rfl) (by rfl) (fun ρ w kn hb=>Jy (kn _ _ (F.old (by rfl) rfl)) ((HM.on hb).get 1 rfl))
  ·exact fun _=>Xr _ _ _ _ _ _ _ _ (by rfl) (by rfl) (fun ρ w kn=>Jaw (kn _ _ (Je _)) (kn _ _ (Je _)) (kn _ _ (Je _)))
  ·intro _
   refine Vm _ 16 _ _ [.tmp 45] _ _ _ _ 3 (qOf 3 [3,5,8]) (Vx 3 [3,5,8]) (by rfl) Try.func16 (by kernel_rfl) (by rfl) (by rfl) (fun vs w hl hb hp=>?_)
   obtain ⟨g45,he45,hat45⟩:=Jci hl hp 1 45 22 (us [3,5,8]) 3 (of_decide_eq_true (by rfl)) (by rfl) (by rfl) (by rfl)
   exact ⟨[.slice (some ⟨g45,0,none⟩) 3 3],(Ue (he45) Vz),Jbn _ 3 3 [3,5,8] w hat45 rfl (by decide) (by decide) (by decide)⟩
  ·intro _
   refine Wl _ 9 _ _ [.tmp 44,.tmp 46,.const (.int .i64 2)] _ _ _ _ _ (by rfl) Try.func9 (by kernel_rfl) (by rfl) (by rfl) (fun vs w hl hb hp=>?_)
   obtain ⟨g46,c46,he46,r46⟩:=Jdw hl hp 2 46 _ 3 (qOf 3 [3,5,8]) (Vx 3 [3,5,8]) (of_decide_eq_true (by rfl)) (by rfl) (by rfl) (by rfl)
   exact ⟨[grp 23 11 4 9,.slice (some ⟨g46,0,none⟩) 3 c46,.int .i64 2],(Ue ((kc 0 44) vs w hl hp) (Ue (he46) (Ue (rfl) Vz))),k_p2 _ c46 w r46⟩
 intro gs rs a w hgs hrs F HM HBW HR HO HT
 obtain ⟨gr,go5,co5,rfl⟩:=nl3 rs hrs
 obtain rfl:=nl0 gs hgs
 have hatr:=HR _ List.mem_cons_self
 clear hrs hgs HR HBW HO
 obtain ⟨ro5,-⟩:=HT
 refine Kq (i:=7) (d:=10) (x:=.tmp 48) (v:=.bool false) F (trivial) (by kernel_rfl) (by rfl) (by rfl) (F.ev rfl) fun a F=>?_
 refine Kq (i:=8) (d:=11) (x:=.tmp 49) (v:=.int .i64 0) F (trivial) (by kernel_rfl) (by rfl) (by rfl) (F.ev rfl) fun a F=>?_
 refine Ui (by kernel_rfl) ?_ _
 refine Kgq ?_
 refine Ks (S:=fun _=>True) HM (fun _ h=>trivial) (by kernel_rfl) fun w HM HBW=>?_
 clear HBW
 try simp only [List.append_eq,List.cons_append,List.nil_append]
 refine Kw [⟨0,51,[],.val (grp 23 11 4 9),false⟩,
   ⟨1,52,[],.row 22 (us [1]) 1,false⟩,
   ⟨2,53,[1],.two 1 (qOf 1 [1]) (Vx 1 [1]),false⟩,
   ⟨3,54,[0,2],.val (.tuple #[.bool false,.int .i64 1]),false⟩,
   ⟨4,50,[3],.val (.tuple #[.bool false,.int .i64 1]),true⟩,
   ⟨5,55,[4],.val (.bool false),true⟩,
   ⟨6,56,[4],.val (.int .i64 1),true⟩] 2 _ F HM (fun _ _=>trivial) (by kernel_rfl) (by rfl) ?_ ?_ ?_ ?_ ?_ ?_ ?_
 ·kernel_rfl
 ·exact of_decide_eq_true (by kernel_rfl)
 ·(repeat refine all_cons ⟨_,by rfl,by rfl⟩ ?_);exact Jj
 ·kernel_rfl
 ·(repeat (refine all_cons ?_ ?_;rotate_left));exact Jj
  all_goals try exact Jq _ (by rfl)
  ·exact crS (fun ρ w kn hs=>Jc (kn _ _ (kc 3 54)))
  ·exact crS (fun ρ w kn hs=>Jk (kn _ _ (kc 4 50)) rfl)
  ·exact crS (fun ρ w kn hs=>Jk (kn _ _ (kc 4 50)) rfl)
 ·(repeat (refine all_cons ?_ ?_;rotate_left));exact Jj
  all_goals try exact sA
  ·exact fun _=>Jbf _ _ _ _ _ _ (by rfl) (by rfl) (fun ρ w kn hb=>Jy (kn _ _ (F.old (by rfl) rfl)) ((HM.on hb).get 1 rfl))
  ·exact fun _=>Xr _ _ _ _ _ _ _ _ (by rfl) (by rfl) (fun ρ w kn=>Jcl (kn _ _ (Je _)))
  ·intro _
   refine Vm _ 16 _ _ [.tmp 52] _ _ _ _ 1 (qOf 1 [1]) (Vx 1 [1]) (by rfl) Try.func16 (by kernel_rfl) (by rfl) (by rfl) (fun vs w hl hb hp=>?_)
   obtain ⟨g52,he52,hat52⟩:=Jci hl hp 1 52 22 (us [1]) 1 (of_decide_eq_true (by rfl)) (by rfl) (by rfl) (by rfl)
   exact ⟨[.slice (some ⟨g52,0,none⟩) 1 1],(Ue (he52) Vz),Jbn _ 1 1 [1] w hat52 rfl (by decide) (by decide) (by decide)⟩
  ·intro _
   refine Wl _ 9 _ _ [.tmp 51,.tmp 53,.const (.int .i64 2)] _ _ _ _ _ (by rfl) Try.func9 (by kernel_rfl) (by rfl) (by rfl) (fun vs w hl hb hp=>?_)
   obtain ⟨g53,c53,he53,r53⟩:=Jdw hl hp 2 53 _ 1 (qOf 1 [1]) (Vx 1 [1]) (of_decide_eq_true (by rfl)) (by rfl) (by rfl) (by rfl)
   exact ⟨[grp 23 11 4 9,.slice (some ⟨g53,0,none⟩) 1 c53,.int .i64 2],(Ue ((kc 0 51) vs w hl hp) (Ue (he53) (Ue (rfl) Vz))),k_p3 _ c53 w r53⟩
 intro gs rs a w hgs hrs F HM HBW HR HO HT
 obtain ⟨gr,go6,co6,rfl⟩:=nl3 rs hrs
 obtain rfl:=nl0 gs hgs
 have hatr:=HR _ List.mem_cons_self
 clear hrs hgs HR HBW HO
 obtain ⟨ro6,-⟩:=HT
 refine Kq (i:=7) (d:=12) (x:=.tmp 55) (v:=.bool false) F (trivial) (by kernel_rfl) (by rfl) (by rfl) (F.ev rfl) fun a F=>?_
 refine Kq (i:=8) (d:=13) (x:=.tmp 56) (v:=.int .i64 1) F (trivial) (by kernel_rfl) (by rfl) (by rfl) (F.ev rfl) fun a F=>?_
 refine Ui (by kernel_rfl) ?_ _
 refine Kgr ?_
 refine lxv (.int .i64 0) F (Jc (F.ev rfl)) fun a F=>?_
 refine lxv (.bool true) F (Ua (u:=.int .i64 0) (v:=.int .i64 0) (fun ρ hx hy=>by simp only [execOp,hx,hy];simp [go_sem]) (F.ev rfl) rfl) fun a F=>?_
 refine lxv (.bool true) F (Jc (F.ev rfl)) fun a F=>?_
 refine lxw 59 true (.slice (some ⟨gw,0,none⟩) 3 cw) F (Jc (F.ev rfl)) fun a F=>?_
 refine Jaq F HM (F.want (t:=59) (c:=true) rfl rfl rfl (by rfl) rfl) rfl (by rfl) (Jaw rfl rfl rfl) fun a w gx F HM=>?_
 refine Xo F (F.want (t:=59) (c:=true) rfl rfl rfl (by rfl) rfl) rfl (by rfl) (Ji Try.func16 (by kernel_rfl) (by rfl) (.cons (F.ev rfl) .nil) _) (ofU_any gx 3 3 [6,10,6] _ (HM.get 0 rfl) rfl (by decide) (by decide)) fun a w u hu F=>?_
 obtain ⟨z,a1,c1,rfl,r1,-⟩:=hu
 replace HM:=HM.on z
 clear z
 refine Jr F (F.want (t:=59) (c:=true) rfl rfl rfl (by rfl) rfl) rfl (by rfl) (Ji Try.func13 (by kernel_rfl) (by rfl) (.cons (F.ev rfl) (.cons (F.ev rfl) .nil)) _) (same12 3 cw 3 c1 _ a1 [6,10,6] [6,10,6] _ rfl (hpw.rsA (HM.get 1 rfl) rfl hl1 hl2 (by decide)) r1) fun a w z F=>?_
 replace HM:=HM.on z
 clear z
 refine lxv (.bool true) F (Jt (b:=true) (r:=.bool true) (F.ev rfl) (F.ev rfl) rfl rfl) fun a F=>?_
 refine lxv (.bool true) F (Jc (F.ev rfl)) fun a F=>?_
 refine lxw 65 true (.int .i64 1) F (Jc (F.ev rfl)) fun a F=>?_
 refine lxw 65 true (.bool true) F (Ua (u:=.int .i64 1) (v:=.int .i64 1) (fun ρ hx hy=>by simp only [execOp,hx,hy];simp [go_sem]) (F.ev rfl) rfl) fun a F=>?_
 refine lxv (.bool true) F (Jt (b:=true) (r:=.bool true) (F.ev rfl) (F.ev rfl) rfl rfl) fun a F=>?_
 refine lxv (.bool true) F (Jc (F.ev rfl)) fun a F=>?_
 refine lxw 69 true (.int .i64 1) F (Jc (F.ev rfl)) fun a F=>?_
 refine lxw 69 true (.bool true) F (Ua (u:=.int .i64 1) (v:=.int .i64 1) (fun ρ hx hy=>by simp only [execOp,hx,hy];simp [go_sem]) (F.ev rfl) rfl) fun a F=>?_
 refine lxv (.bool true) F (Jt (b:=true) (r:=.bool true) (F.ev rfl) (F.ev rfl) rfl rfl) fun a F=>?_
 refine lxv (.bool true) F (Jc (F.ev rfl)) fun a F=>?_
 refine lxw 73 true (.bool true) F (Jc (F.ev rfl)) fun a F=>?_
 refine lxv (.bool true) F (Jt (b:=true) (r:=.bool true) (F.ev rfl) (F.ev rfl) rfl rfl) fun a F=>?_
 refine lxv (.bool true) F (Jc (F.ev rfl)) fun a F=>?_
 refine lxw 76 true (.int .i64 0) F (Jc (F.ev rfl)) fun a F=>?_
 refine lxw 76 true (.bool true) F (Ua (u:=.int .i64 0) (v:=.int .i64 0) (fun ρ hx hy=>by simp only [execOp,hx,hy];simp [go_sem]) (F.ev rfl) rfl) fun a F=>?_
 refine lxv (.bool true) F (Jt (b:=true) (r:=.bool true) (F.ev rfl) (F.ev rfl) rfl rfl) fun a F=>?_
 refine lxv (.bool true) F (Jc (F.ev rfl)) fun a F=>?_
 refine lxw 80 true (.bool false) F (Jc (F.ev rfl)) fun a F=>?_
 refine lxw 80 true (.bool true) F (Xv (b:=false) (r:=true) (F.ev rfl) rfl) fun a F=>?_
 refine lxv (.bool true) F (Jt (b:=true) (r:=.bool true) (F.ev rfl) (F.ev rfl) rfl rfl) fun a F=>?_
 refine lxv (.bool true) F (Jc (F.ev rfl)) fun a F=>?_
 refine lxw 84 true (.int .i64 0) F (Jc (F.ev rfl)) fun a F=>?_
 refine lxw 84 true (.bool true) F (Ua (u:=.int .i64 0) (v:=.int .i64 0) (fun ρ hx hy=>by simp only [execOp,hx,hy];simp [go_sem]) (F.ev rfl) rfl) fun a F=>?_
 refine lxv (.bool true) F (Jt (b:=true) (r:=.bool true) (F.ev rfl) (F.ev rfl) rfl rfl) fun a F=>?_
 refine lxv (.bool true) F (Jc (F.ev rfl)) fun a F=>?_
 refine lxw 88 true (.int .i64 1) F (Jc (F.ev rfl)) fun a F=>?_
 refine lxw 88 true (.bool true) F (Ua (u:=.int .i64 1) (v:=.int .i64 1) (fun ρ hx hy=>by simp only [execOp,hx,hy];simp [go_sem]) (F.ev rfl) rfl) fun a F=>?_
 refine lxv (.bool true) F (Jt (b:=true) (r:=.bool true) (F.ev rfl) (F.ev rfl) rfl rfl) fun a F=>?_
 refine lxv (.bool true) F (Jg (F.ev rfl)) fun a F=>?_
 refine Jf ?_
 refine Kgq ?_
 refine wp_ret ?_
 repeat (first | refine Jv ?_ | refine Jp ?_)
 exact Kv F HM (Kt F rfl (s:=0) rfl)

end Go.Proofs.Ytcbnmdkmfdjpiaa
