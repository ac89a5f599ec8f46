import Derived.Deep.Cut
import Derived.Test.YtcbnmdkmfdjpiaaPDu8
import Derived.Test.YtcbnmdkmfdjpiaaPShort
namespace Go.Proofs.Ytcbnmdkmfdjpiaa
set_option maxRecDepth 100000
open Go.RowKit
set_option linter.unusedSimpArgs false
set_option linter.unusedVariables false
attribute [local go_sem ↓] Go.wp_at_zero Go.wp_at_succ

def Wu (Q:Nat) (ps:List Nat) (i:Nat):Nat:=Ki Q (evZ (zs ps) ((Ki Q ((i+1:Nat):Int):Nat):Int))
theorem at_val (P Q G H m capp i:Nat) (pp:Option Addr) (ps:List Nat) (u:World) (hQ:Q<2^256) (hz:Jew Q ps=true) (rp:RN u.heap.size u pp m capp ps):Calls Try.prog 17 #[grp P Q G H,.slice pp m capp,num (Ki Q ((i+1:Nat):Int))] u fun e w'=>e=.returned (.tuple #[num (Wu Q ps i),.int .i64 0])∧Below u.heap.size u w':=
 Jcx P Q G H _ m capp pp ps u hQ (by rw [Jfq];exact hz) rp
set_option maxRecDepth 100000 in
set_option maxHeartbeats 800000 in
theorem values_any12 (P Q G H m n capp:Nat) (pp:Option Addr) (ps:List Nat) (w0:World) (hQ:Q<2^256) (hn:n≤1000) (hz:Jew Q ps=true) (rp:RN w0.heap.size w0 pp m capp ps):Calls Try.prog 8 #[grp P Q G H,.slice pp m capp,.int .i64 (n:Nat)] w0 fun e w'=>∃ u,e=.returned u∧Below w0.heap.size w0 w'∧NR w0.heap.size w' u ((List.range n).map (Wu Q ps)):=by
 refine Kc (args:=[grp P Q G H,.slice pp m capp,.int .i64 (n:Nat)]) Try.func8 rfl Try.ntmps8 (by rfl) fun a F HM=>?_
 refine Kgr ?_
 refine Jn F HM (Ja rfl _) rfl (by rfl) (Kn (F.ev rfl)) fun a w gg F HM=>?_
 refine lxv (.slice none 0 0) F (Jg rfl) fun a F=>?_
 refine Jf ?_
 refine Kgr ?_
 refine lxv (.slice none 0 0) F (Jg rfl) fun a F=>?_
 refine Jf ?_
 refine Kgr ?_
 refine lxv (.int .i64 1) F (Jg rfl) fun a F=>?_
 refine Jf ?_
 refine Kgq ?_
 refine wp_loop (fun a w=>∃ (i:Nat) (v:Value) (R:List (Nat × TypeId × Array Value)),i≤n∧LR R v ((List.range i).map (Wu Q ps))∧Fr a 30 [(8,.int .i64 ((i+1:Nat):Int)),(7,v),(2,.int .i64 (n:Nat)),(1,.slice pp m capp),(3,.pointer (some ⟨gg,0,none⟩))] []∧Mem w0.heap.size w0 w ((gg,26,gcs P Q G H)::R)) (fun a _=>n+1-(intOf (a.tmps.getD 8 undef)).toNat) ⟨0,_,[],Nat.zero_le _,LR.nil _,F.sub [8,7,2,1,3],HM⟩ ?_
 clear F HM
 rintro aS wS ⟨i,v,R,hi,lv,FS,HM⟩
 have F:=FS
 have h1:1<Q:=(polB_iff.1 hz).1
 by_cases hlt:i<n
 ·refine Kgr ?_
  refine lxv (.int .i64 ((i+1:Nat):Int)) F (Jc (F.ev rfl)) fun a F=>?_
  refine lxv (.int .i64 (n:Nat)) F (Jc (F.ev rfl)) fun a F=>?_
  refine lxv (.bool true) F (Ua (u:=.int .i64 ((i+1:Nat):Int)) (v:=.int .i64 (n:Nat)) (fun ρ hx hy=>by simp only [execOp,hx,hy];simp [go_sem];omega) (F.ev rfl) (F.ev rfl)) fun a F=>?_
  refine Jf ?_
  refine Kgq ?_
  refine wp_cond_true (F.ev rfl) ?_
  refine Kgq ?_
  refine Ks (S:=fun w'=>Mem _ _ w' ((gg,26,gcs P Q G H)::R)) HM (fun _ h=>h) (by kernel_rfl) fun w HM HBW=>?_
  clear HBW
  try simp only [List.append_eq,List.cons_append,List.nil_append]
  refine Kw [⟨0,17,[],.val (grp P Q G H),true⟩,
   ⟨1,18,[0],.val (.slice pp m capp),true⟩,
   ⟨2,19,[1],.val (grp P Q G H),true⟩,
   ⟨3,20,[2],.val (.int .i64 ((i+1:Nat):Int)),true⟩,
   ⟨9,9,[],.cell 24 (ncs 0),false⟩,
   ⟨4,21,[2,3],.val (num (Ki Q ((i+1:Nat):Int))),false⟩,
   ⟨5,22,[0,1,5],.val (.tuple #[num (Wu Q ps i),.int .i64 0]),false⟩,
   ⟨6,16,[6],.val (.tuple #[num (Wu Q ps i),.int .i64 0]),true⟩,
   ⟨7,23,[7],.val (num (Wu Q ps i)),true⟩,
   ⟨8,24,[7,8],.val (.int .i64 0),true⟩] 2 _ F HM (fun _ h=>h.subl (by first | exact List.Sublist.refl _ | (repeat (first | exact List.Sublist.refl _ | refine List.Sublist.cons_cons _ ?_ | refine List.Sublist.cons _ ?_)))) (by kernel_rfl) (by rfl) ?_ ?_ ?_ ?_ ?_ ?_ ?_
  ·kernel_rfl
  ·exact of_decide_eq_true (by kernel_rfl)
  ·(repeat refine all_cons ⟨_,by rfl,by rfl⟩ ?_);exact Jj
  ·kernel_rfl
  ·(repeat (refine all_cons ?_ ?_;rotate_left));exact Jj
   all_goals try exact Jq _ (by rfl)
   ·exact Ug _ _ _ _ _ _ _ (by rfl) (by rfl) Jh (fun ρ w kn hs=>Jy (kn _ _ (F.old (by rfl) rfl)) (hs.get 0 rfl))
   ·exact Ug _ _ _ _ _ _ _ (by rfl) (by rfl) Jh (fun ρ w kn hs=>Jc (kn _ _ (F.old (by rfl) rfl)))
   ·exact Ug _ _ _ _ _ _ _ (by rfl) (by rfl) Jh (fun ρ w kn hs=>Jy (kn _ _ (F.old (by rfl) rfl)) (hs.get 0 rfl))
   ·exact Ug _ _ _ _ _ _ _ (by rfl) (by rfl) Jh (fun ρ w kn hs=>Jc (kn _ _ (F.old (by rfl) rfl)))
   ·exact crS (fun ρ w kn hs=>Jc (kn _ _ (kc 6 22)))
   ·exact crS (fun ρ w kn hs=>Jk (kn _ _ (kc 7 16)) rfl)
   ·exact crS (fun ρ w kn hs=>Jk (kn _ _ (kc 7 16)) rfl)
  ·(repeat (refine all_cons ?_ ?_;rotate_left));exact Jj
   all_goals try exact sA
   ·exact fun _=>Jam _ _ _ _ _ _ _ _ (by rfl) (by rfl) (Nat.le_refl _) (fun ρ w=>Kd)
   ·exact fun _=>Jm _ 11 _ _ [.tmp 19,.tmp 20] _ _ _ _ _ _ _ (by rfl) Try.func11 (by kernel_rfl) (by rfl) (by rfl) (Jh) (.cons (kc 2 19) (.cons (kc 3 20) .nil)) ((fun w=>Jch P Q G H ((i+1:Nat):Int) hQ (by omega) (by omega) w))
   ·exact fun _=>coreG_callB _ 17 _ _ [.tmp 17,.tmp 18,.tmp 21] _ _ _ _ _ _ _ (by rfl) Try.func17 (by kernel_rfl) (by rfl) (by rfl) (Jh) (.cons (kc 0 17) (.cons (kc 1 18) (.cons (kc 5 21) .nil))) (fun u hb=>(fun u hbu=>at_val P Q G H m capp i pp ps u hQ hz (rp.call hbu hbu.size)) u (HM.on hb).bel)
  intro gs rs a w hgs hrs F HM HBW HR HO HT
  obtain rfl:=nl0 rs hrs
  obtain ⟨gb,rfl⟩:=nl1 gs hgs
  clear hrs hgs HR HBW HO
  clear HT
  refine Vh (i:=10) HM (by kernel_rfl) (by rfl) rfl rfl (k:=0) rfl (Ka (F.ev rfl) (F.ev rfl) (HM.get 0 rfl)) (M2:=((gb,24,ncs (Wu Q ps i))::(gg,26,gcs P Q G H)::R)) (rfl) (fun _ h=>h.subl (by first | exact List.Sublist.refl _ | (repeat (first | exact List.Sublist.refl _ | refine List.Sublist.cons_cons _ ?_ | refine List.Sublist.cons _ ?_)))) fun w HM=>?_
  refine Kq (i:=11) (d:=10) (x:=.tmp 24) (v:=.int .i64 0) F ((HM.subl (by first | exact List.Sublist.refl _ | (repeat (first | exact List.Sublist.refl _ | refine List.Sublist.cons_cons _ ?_ | refine List.Sublist.cons _ ?_))))) (by kernel_rfl) (by rfl) (by rfl) (F.ev rfl) fun a F=>?_
  refine Ui (by kernel_rfl) ?_ _
  refine Kgr ?_
  refine lxv v F (Jc (F.ev rfl)) fun a F=>?_
  refine lxv (num (Wu Q ps i)) F (Kg (F.ev rfl) (HM.get 0 rfl)) fun a F=>?_
  refine Jaq F HM (Ja rfl _) rfl (by rfl) (Wx (F.ev rfl)) fun a w gr F HM=>?_
  obtain ⟨v2,w2,hrun,R,HM2,l2,lk2⟩:=Jgg (ρ:=a.eval) (s:=.tmp 25) (x:=.tmp 27) (A:=[(gr,24,(Xs (Wu Q ps i))),(gb,24,ncs (Wu Q ps i)),(gg,26,gcs P Q G H)]) HM lv (F.ev rfl) (F.ev rfl) rfl ((Pf.one (Wu Q ps i)).lie (HM.get 0 rfl)) (by simp) (by simp;omega)
  replace HM:=HM2;have lv:=l2
  refine Wz (v:=v2) F (Ja rfl _) rfl (by rfl) hrun fun a F=>?_
  refine lxv v2 F (Jg (F.ev rfl)) fun a F=>?_
  refine Jf ?_
  replace HM:=HM.erase 0 (M2:=((gb,24,ncs (Wu Q ps i))::(gg,26,gcs P Q G H)::R)) rfl
  replace HM:=HM.erase 0 (M2:=((gg,26,gcs P Q G H)::R)) rfl
  refine Kgr ?_
  refine lxv (.int .i64 ((i+1:Nat):Int)) F (Jc (F.ev rfl)) fun a F=>?_
  refine lxv (.int .i64 ((i+1+1:Nat):Int)) F (Ua (u:=.int .i64 ((i+1:Nat):Int)) (v:=.int .i64 1) (fun ρ hx hy=>by simp only [execOp,hx,hy];simp [go_sem];exact Jez (m:=i+1+1) (by omega)) (F.ev rfl) rfl) fun a F=>?_
  refine lxv (.int .i64 ((i+1+1:Nat):Int)) F (Jg (F.ev rfl)) fun a F=>?_
  refine Jf ?_
  refine Js ?_
  have hl2:(List.range (i+1)).map (Wu Q ps)=(List.range i).map (Wu Q ps)++[Wu Q ps i]:=by rw [List.range_succ,List.map_append];rfl
  refine ⟨⟨i+1,_,_,by omega,by rw [hl2];exact lv,F.sub [8,7,2,1,3],HM⟩,?_⟩
  ·show n+1-(intOf (a.tmps.getD 8 undef)).toNat<n+1-(intOf (aS.tmps.getD 8 undef)).toNat
   rw [F.get 8 _ rfl,FS.get 8 _ rfl]
   show n+1-((i+1+1:Nat):Int).toNat<n+1-((i+1:Nat):Int).toNat
   omega
 ·refine Kgr ?_
  refine lxv (.int .i64 ((i+1:Nat):Int)) F (Jc (F.ev rfl)) fun a F=>?_
  refine lxv (.int .i64 (n:Nat)) F (Jc (F.ev rfl)) fun a F=>?_
  refine lxv (.bool false) F (Ua (u:=.int .i64 ((i+1:Nat):Int)) (v:=.int .i64 (n:Nat)) (fun ρ hx hy=>by simp only [execOp,hx,hy];simp [go_sem];omega) (F.ev rfl) (F.ev rfl)) fun a F=>?_
  refine Jf ?_
  refine Kgq ?_
  refine wp_cond_false (F.ev rfl) ?_
  refine Kgq ?_
  refine wp_exit ?_
  repeat (first | refine Vu ?_ | refine Vf ?_)
  obtain rfl:i=n:=by omega
  refine Kgr ?_
  refine lxv v F (Jc (F.ev rfl)) fun a F=>?_
  refine lxv v F (Jg (F.ev rfl)) fun a F=>?_
  refine Jf ?_
  refine Kgq ?_
  refine wp_ret ?_
  repeat (first | refine Jv ?_ | refine Jp ?_)
  exact bodyPost_ret (Kt F rfl (s:=6) rfl) F.defers ⟨_,rfl,HM.bel,lv.nr HM (fun x hx=>by simp [hx])⟩

set_option maxRecDepth 100000 in
set_option maxHeartbeats 800000 in
theorem passes_any (P Q G H n capl:Nat) (pl:Option Addr) (ls:List Nat) (k:Int) (b:Bool) (e1:Int) (w0:World) (hP:P<2^256) (hG:G<2^256) (hn:n≤1000) (hm:Jbo P G=true) (r:RN w0.heap.size w0 pl n capl ls) (hC:∀ (a:Option Addr) (c:Nat) (u:World),RN u.heap.size u a n c (ls.map (fun x=>G^x%P))→Calls Try.prog 20 #[grp P Q G H,.slice a n c,.int .i64 k] u fun e w'=>e=.returned (.tuple #[.bool b,.int .i64 e1])∧Below u.heap.size u w'):Calls Try.prog 9 #[grp P Q G H,.slice pl n capl,.int .i64 k] w0 fun e w'=>e=.returned (.tuple #[.bool b,.int .i64 e1])∧Below w0.heap.size w0 w':=by
 refine Kc (args:=[grp P Q G H,.slice pl n capl,.int .i64 k]) Try.func9 rfl Try.ntmps9 (by rfl) fun a F HM=>?_
 refine Kgr ?_
 refine Jn F HM (Ja rfl _) rfl (by rfl) (Kn (F.ev rfl)) fun a w gg F HM=>?_
 refine lxv (.bool false) F (Jg rfl) fun a F=>?_
 refine lxv (.int .i64 0) F (Jg rfl) fun a F=>?_
 refine Jf ?_
 refine Kgr ?_
 refine lxv (.slice none 0 0) F (Jg rfl) fun a F=>?_
 refine Jf ?_
 refine Kgr ?_
 refine lxv (.int .i64 0) F (Jg rfl) fun a F=>?_
 refine Jf ?_
 refine Kgq ?_
 refine wp_loop (fun a w=>∃ (i:Nat) (v:Value) (R:List (Nat × TypeId × Array Value)),i≤n∧LR R v ((ls.take i).map (fun x=>G^x%P))∧Fr a 31 [(9,.int .i64 (i:Nat)),(8,v),(2,.int .i64 k),(1,.slice pl n capl),(3,.pointer (some ⟨gg,0,none⟩))] []∧Mem w0.heap.size w0 w ((gg,26,gcs P Q G H)::R)) (fun a _=>n-(intOf (a.tmps.getD 9 undef)).toNat) ⟨0,_,[],Nat.zero_le _,LR.nil _,F.sub [9,8,2,1,3],HM⟩ ?_
 clear F HM
 rintro aS wS ⟨i,v,R,hi,lv,FS,HM⟩
 have F:=FS
 by_cases hlt:i<n
 ·refine Kgr ?_
  refine lxv (.int .i64 (i:Nat)) F (Jc (F.ev rfl)) fun a F=>?_
  refine lxv (.slice pl n capl) F (Jc (F.ev rfl)) fun a F=>?_
  refine lxv (.int .i64 (n:Nat)) F (Ur (F.ev rfl)) fun a F=>?_
  refine lxv (.bool true) F (Ua (u:=.int .i64 (i:Nat)) (v:=.int .i64 (n:Nat)) (fun ρ hx hy=>by simp only [execOp,hx,hy];simp [go_sem];omega) (F.ev rfl) (F.ev rfl)) fun a F=>?_
  refine Jf ?_
  refine Kgq ?_
  refine wp_cond_true (F.ev rfl) ?_
  have hwr:=r.room hlt
  obtain ⟨gl,ol,hpa,hil,hxb,hc⟩:=r.get hlt
  have hlt2:i<ls.length:=by rw [r.1];exact hlt
  have hgx:ls[i]? = some ls[i]:=List.getElem?_eq_getElem hlt2
  have hsn:(ls.take (i+1)).map (fun x=>G^x%P)=(ls.take i).map (fun x=>G^x%P)++[G^ls[i]%P]:=by rw [List.take_succ_eq_append_getElem hlt2,List.map_append];rfl
  generalize ls[i]=x at *
  refine Kgq ?_
  refine Ks (S:=fun w'=>Mem _ _ w' [(gg,26,gcs P Q G H)]) HM (fun _ h=>h.subl (List.Sublist.cons_cons _ (List.nil_sublist _))) (by kernel_rfl) fun w HM HBW=>?_
  clear HBW
  try simp only [List.append_eq,List.cons_append,List.nil_append]
  have HLT:=HM.lt;have HLE:=Nat.le_trans HM.le HM.bel.size
  refine Kw [⟨0,16,[],.val (v),true⟩,
   ⟨1,17,[0],.val (grp P Q G H),true⟩,
   ⟨2,18,[1],.val (.slice pl n capl),true⟩,
   ⟨3,19,[2],.val (.int .i64 (i:Nat)),true⟩,
   ⟨4,20,[2,3],.val (.pointer (some ⟨gl,ol+i*4,none⟩)),true⟩,
   ⟨5,21,[4],.val (num x),true⟩,
   ⟨6,22,[1,5],.val (num ((G^x%P))),false⟩,
   ⟨7,23,[6],.own 24 (Xs ((G^x%P))) 1,false⟩] 2 _ F HM (fun _ h=>h.subl (List.Sublist.cons_cons _ (List.nil_sublist _))) (by kernel_rfl) (by rfl) ?_ ?_ ?_ ?_ ?_ ?_ ?_
  ·kernel_rfl
  ·exact of_decide_eq_true (by kernel_rfl)
  ·(repeat refine all_cons ⟨_,by rfl,by rfl⟩ ?_);exact Jj
  ·kernel_rfl
  ·(repeat (refine all_cons ?_ ?_;rotate_left));exact Jj
   ·exact Ug _ _ _ _ _ _ _ (by rfl) (by rfl) Jh (fun ρ w kn hs=>Jc (kn _ _ (F.old (by rfl) rfl)))
   ·exact Ug _ _ _ _ _ _ _ (by rfl) (by rfl) Jh (fun ρ w kn hs=>Jy (kn _ _ (F.old (by rfl) rfl)) (hs.get 0 rfl))
   ·exact Ug _ _ _ _ _ _ _ (by rfl) (by rfl) Jh (fun ρ w kn hs=>Jc (kn _ _ (F.old (by rfl) rfl)))
   ·exact Ug _ _ _ _ _ _ _ (by rfl) (by rfl) Jh (fun ρ w kn hs=>Jc (kn _ _ (F.old (by rfl) rfl)))
   ·exact Ug _ _ _ _ _ _ _ (by rfl) (by rfl) Jh (fun ρ w kn hs=>Jay hlt (by rw [← hpa];exact (kn _ _ (kc 2 18))) (kn _ _ (kc 3 19)))
   ·exact crS (fun ρ w kn hs=>Xx (kn _ _ (kc 4 20)) (hc _ hs.bel))
   ·exact Jq _ (by rfl)
   ·exact Jq _ (by rfl)
  ·(repeat (refine all_cons ?_ ?_;rotate_left));exact Jj
   all_goals try exact sA
   ·exact fun _=>Jm _ 19 _ _ [.tmp 17,.tmp 21] _ _ _ _ _ _ _ (by rfl) Try.func19 (by kernel_rfl) (by rfl) (by rfl) (Jh) (.cons (kc 1 17) (.cons (kc 5 21) .nil)) ((fun w=>power_any P Q G H x hP hG hxb hm w))
   ·exact fun _=>Jdn _ _ _ _ _ _ _ _ _ (by rfl) (by rfl) (Nat.le_refl _) (fun ρ w kn=>Wx (kn _ _ (kc 6 22)))
  intro gs rs a w hgs hrs F HM HBW HR HO HT
  obtain ⟨gy,rfl⟩:=nl1 rs hrs
  obtain rfl:=nl0 gs hgs
  have haty:=HR _ List.mem_cons_self
  clear hrs hgs HR HBW
  clear HT
  have hoy:=HO gy (by simp [Xe])
  replace HM:=HM.add (Nat.le_trans HLE hoy) (fun x hx=>by have:=HLT x hx;omega) haty
  clear HLT HLE HO hoy haty
  obtain ⟨v2,w2,hrun,R,HM2,l2,lk2⟩:=Jgg (ρ:=a.eval) (s:=.tmp 16) (x:=.tmp 23) (A:=[(gy,24,Xs (G^x%P)),(gg,26,gcs P Q G H)]) HM lv (F.ev rfl) (F.ev rfl) rfl ((Pf.one (G^x%P)).lie (HM.get 0 rfl)) (by simp) (by simp;omega)
  refine sx_ready1 (i:=8) (by kernel_rfl) (by rfl) (stp_val F rfl rfl (by rfl) hrun (HM2.subl (List.Sublist.cons _ (List.Sublist.cons_cons _ (List.nil_sublist _)))) fun a F=>?_)
  replace HM:=HM2;have lv:=l2
  refine Kq (i:=9) (d:=8) (x:=.tmp 24) (v:=v2) F (HM.subl (List.Sublist.cons _ (List.Sublist.cons_cons _ (List.nil_sublist _)))) (by kernel_rfl) (by rfl) (by rfl) (F.ev rfl) fun a F=>?_
  refine Ui (by kernel_rfl) ?_ _
  replace HM:=HM.erase 0 (M2:=((gg,26,gcs P Q G H)::R)) rfl
  refine Kgr ?_
  refine lxv (.int .i64 (i:Nat)) F (Jc (F.ev rfl)) fun a F=>?_
  refine lxv (.int .i64 ((i+1:Nat):Int)) F (Ua (u:=.int .i64 (i:Nat)) (v:=.int .i64 1) (fun ρ hx hy=>by simp only [execOp,hx,hy];simp [go_sem,hwr]) (F.ev rfl) rfl) fun a F=>?_
  refine lxv (.int .i64 ((i+1:Nat):Int)) F (Jg (F.ev rfl)) fun a F=>?_
  refine Jf ?_
  refine Js ?_
  refine ⟨⟨i+1,_,_,by omega,by rw [hsn];exact lv,F.sub [9,8,2,1,3],HM⟩,?_⟩
  ·show n-(intOf (a.tmps.getD 9 undef)).toNat<n-(intOf (aS.tmps.getD 9 undef)).toNat
   rw [F.get 9 _ rfl,FS.get 9 _ rfl]
   show n-((i+1:Nat):Int).toNat<n-((i:Nat):Int).toNat
   omega
 ·refine Kgr ?_
  refine lxv (.int .i64 (i:Nat)) F (Jc (F.ev rfl)) fun a F=>?_
  refine lxv (.slice pl n capl) F (Jc (F.ev rfl)) fun a F=>?_
  refine lxv (.int .i64 (n:Nat)) F (Ur (F.ev rfl)) fun a F=>?_
  refine lxv (.bool false) F (Ua (u:=.int .i64 (i:Nat)) (v:=.int .i64 (n:Nat)) (fun ρ hx hy=>by simp only [execOp,hx,hy];simp [go_sem];omega) (F.ev rfl) (F.ev rfl)) fun a F=>?_
  refine Jf ?_
  refine Kgq ?_
  refine wp_cond_false (F.ev rfl) ?_
  refine Kgq ?_
  refine wp_exit ?_
  repeat (first | refine Vu ?_ | refine Vf ?_)
  obtain rfl:i=n:=by omega
  rw [List.take_of_length_le (by rw [r.1];exact Nat.le_refl _)] at lv
  have hP0:0<P:=by unfold Jbo at hm;simp at hm;omega
  obtain ⟨av,cv,rfl⟩:=lv.form
  have hle:(ls.map (fun x=>G^x%P)).length=i:=by rw [List.length_map];exact r.1
  rw [hle] at F lv
  have hrn:=lv.rn HM (fun x hx=>by simp [hx]) (fun x hx=>by obtain ⟨y,_,rfl⟩:=List.mem_map.1 hx;exact Nat.lt_trans (Nat.mod_lt _ hP0) hP)
  refine Kgr ?_
  refine lxv (grp P Q G H) F (Jy (F.ev rfl) (HM.get 0 rfl)) fun a F=>?_
  refine lxv (.slice av i cv) F (Jc (F.ev rfl)) fun a F=>?_
  refine lxv (.int .i64 k) F (Jc (F.ev rfl)) fun a F=>?_
  refine Jr F (Ja rfl _) rfl (by rfl) (Ji Try.func20 (by kernel_rfl) (by rfl) (.cons (F.ev rfl) (.cons (F.ev rfl) (.cons (F.ev rfl) .nil))) _) (hC _ _ _ hrn) fun a w z F=>?_
  replace HM:=HM.on z
  clear z
  refine lxv (.bool b) F (Jk (F.ev rfl) rfl) fun a F=>?_
  refine lxv (.int .i64 e1) F (Jk (F.ev rfl) rfl) fun a F=>?_
  refine lxv (.bool b) F (Jg (F.ev rfl)) fun a F=>?_
  refine lxv (.int .i64 e1) F (Jg (F.ev rfl)) fun a F=>?_
  refine Jf ?_
  refine Kgq ?_
  refine wp_ret ?_
  repeat (first | refine Jv ?_ | refine Jp ?_)
  exact bodyPost_ret (Jgd F (s:=6) (t:=7) rfl rfl rfl) F.defers ⟨rfl,HM.bel⟩

end Go.Proofs.Ytcbnmdkmfdjpiaa
