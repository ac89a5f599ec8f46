import Derived.Deep.Cut
import Derived.Test.YtmmgmljkmmgjdaaGreatDoorMOpenZ
import Derived.Test.YtmmgmljkmmgjdaaGreatDoorMTree
namespace Go.Proofs.YtmmgmljkmmgjdaaGreatDoor
set_option maxRecDepth 100000
set_option maxHeartbeats 8000000
open Go.RowKit
set_option linter.unusedSimpArgs false
set_option linter.unusedVariables false
attribute [local go_sem ↓] Go.wp_at_zero Go.wp_at_succ

section
variable {x y:Operand} {dst:Option Tmp} {ty:TypeId} {pos:String} {after:Array Edge} {guard:Option (Nat × Bool)} {ρ:Operand→Value} {w:World} {g o:Nat}
theorem o_b77 (hx:ρ (.const (.int .u64 77))=.int .u64 77):(execOp ρ ⟨dst,.build 24 #[(0,.const (.int .u64 77))],ty,pos,after,guard⟩).run Tryz.prog w=.ok (.value (num 77)) w:=by
 have h:(execOp ρ ⟨dst,.build 24 #[(0,.const (.int .u64 77))],ty,pos,after,guard⟩).run Tryz.prog w=.ok (.value (.agg #[.int .u64 77,.int .u64 0,.int .u64 0,.int .u64 0])) w:=by
  simp [execOp,hx,go_sem]
 exact h
theorem o_capNum {a:Option Addr} {l cap:Nat} (hx:ρ x=.slice a l cap):(execOp ρ ⟨dst,.call ⟨.builtin .cap,#[x],#[27]⟩,ty,pos,after,guard⟩).run Tryz.prog w=.ok (.value (.int .i64 (cap:Nat))) w:=by
 simp [execOp,hx,go_sem]
theorem o_cutNum {k l cap:Nat} (hk:k≤cap) (h0:0<cap) (hx:ρ x=.slice (some ⟨g,o,none⟩) l cap) (hy:ρ y=.int .i64 (k:Nat)):(execOp ρ ⟨dst,.slice 27 x none (some y) none,ty,pos,after,guard⟩).run Tryz.prog w=.ok (.value (.slice (some ⟨g,o,none⟩) k cap)) w:=by
 have h1:(k:Int)≤(cap:Int):=by omega
 have h2:¬ cap=0:=by omega
 simp [execOp,hx,hy,go_sem,h1,h2,Addr.add_lit]
end
theorem twinNum_any (n cap:Nat) (pa:Option Addr) (xs:List Nat) (w0:World) (hn:n≤1000) (r:RN w0.heap.size w0 pa n cap xs):Calls Tryz.prog 5 #[.slice pa n cap] w0 fun e w'=>∃ g cap',e=.returned (.slice (some ⟨g,0,none⟩) n cap')∧Below w0.heap.size w0 w'∧TW 24 4 w0.heap.size w' g n cap' (flat (xs++[77])):=by
 refine Jx (args:=[.slice pa n cap]) Tryz.func5 rfl Tryz.ntmps5 (by rfl) fun a F HM=>?_
 obtain ⟨i0,hi0,hz0,hz1,hz2⟩:=info_parts Tryz.infoNum
 refine Kgr ?_
 refine lxv (.slice none 0 0) F (Je rfl) fun a F=>?_
 refine Jc ?_
 refine Kgr ?_
 refine lxv (.slice pa n cap) F (Jb (F.ev rfl)) fun a F=>?_
 refine lxv (.int .i64 (n:Nat)) F (Ko (F.ev rfl)) fun a F=>?_
 refine lxv (.int .i64 ((n+1:Nat):Int)) F (Jah (m:=n) (k:=1) (by omega) (F.ev rfl) rfl) fun a F=>?_
 refine lx_makeW (A:=[]) (R:=[]) Tryz.underlying27 hi0 hz0 hz1 hz2 F HM (by rfl) rfl (F.ev rfl) (by omega) (by decide) (by decide) fun a w gt R F HM l2 kp2=>?_
 clear kp2
 refine lxv (.slice (some ⟨gt,0,none⟩) 0 (n+1)) F (Je (F.ev rfl)) fun a F=>?_
 refine Jc ?_
 refine Kgr ?_
 refine lxv (.int .i64 0) F (Je rfl) fun a F=>?_
 refine Jc ?_
 refine Kgq ?_
 refine wp_loop (fun a w=>∃ (i gt ct:Nat) (R:List (Nat × TypeId × Array Value)),i≤n∧LW 24 4 R (.slice (some ⟨gt,0,none⟩) i ct) i (flat (xs.take i))∧Fr a 29 [(4,.int .i64 (i:Nat)),(0,.slice pa n cap),(3,.slice (some ⟨gt,0,none⟩) i ct)] []∧Mem w0.heap.size w0 w R) (fun a _=>n-(intOf (a.tmps.getD 4 undef)).toNat) ⟨0,gt,n+1,R,Nat.zero_le _,l2,F.sub [4,0,3],HM⟩ ?_
 clear F HM l2
 rintro aS wS ⟨i,gt,ct,R,hi,lv,FS,HM⟩
 have F:=FS
 by_cases hlt:i<n
 ·refine Kgr ?_
  refine lxv (.int .i64 (i:Nat)) F (Jb (F.ev rfl)) fun a F=>?_
  refine lxv (.slice pa n cap) F (Jb (F.ev rfl)) fun a F=>?_
  refine lxv (.int .i64 (n:Nat)) F (Ko (F.ev rfl)) fun a F=>?_
  refine lxv (.bool true) F (Jz (u:=.int .i64 (i:Nat)) (v:=.int .i64 (n:Nat)) (fun ρ hx hy=>by simp only [execOp,hx,hy];simp [go_sem];omega) (F.ev rfl) (F.ev rfl)) fun a F=>?_
  refine Jc ?_
  refine Kgq ?_
  refine wp_cond_true (F.ev rfl) ?_
  have hwr:=r.room hlt
  obtain ⟨gl,ol,hpa,hil,hxb,hc⟩:=r.get hlt
  have htk:xs.take (i+1)=xs.take i++[xs[i]]:=List.take_succ_eq_append_getElem hil
  generalize xs[i]=x at *
  refine Kgr ?_
  refine lxv (.slice (some ⟨gt,0,none⟩) i ct) F (Jb (F.ev rfl)) fun a F=>?_
  refine lxv (.slice pa n cap) F (Jb (F.ev rfl)) fun a F=>?_
  refine lxv (.int .i64 (i:Nat)) F (Jb (F.ev rfl)) fun a F=>?_
  refine lxv (.pointer (some ⟨gl,ol+i*4,none⟩)) F (Kv hlt (by rw [← hpa];exact (F.ev rfl)) (F.ev rfl)) fun a F=>?_
  refine lxv (num x) F (Kh (F.ev rfl) (hc _ HM.bel)) fun a F=>?_
  refine Vv F HM (Ja rfl _) rfl (by rfl) (Vl (F.ev rfl)) fun a w gr F HM=>?_
  obtain ⟨g2,cap2,w2,hrun,R2,HM2,l2,kp2,dj2,nb2⟩:=Jiv (P:=Tryz.prog) (ρ:=a.eval) (s:=.tmp 15) (x:=.tmp 20) (dst:=some 21) (T:=24) (t:=27) (A:=[(gr,24,(Jes x))]) (ys:=Jcj x) Tryz.underlying27 hi0 hz0 hz1 hz2 rfl (by decide) HM lv (F.ev rfl) (F.ev rfl) rfl (World.news_of_block (HM.get 0 rfl)) (Jgk x) (by decide) (by have:=r.len;unfold maxLen;omega) (by omega)
  replace HM:=HM2
  rw [show Jcj x=flat [x] from rfl,← Jch] at l2
  clear kp2 dj2 nb2
  refine Ux (v:=.slice (some ⟨g2,0,none⟩) (i+1) cap2) F (Ja rfl _) rfl (by rfl) hrun fun a F=>?_
  refine lxv (.slice (some ⟨g2,0,none⟩) (i+1) cap2) F (Je (F.ev rfl)) fun a F=>?_
  refine Jc ?_
  replace HM:=HM.erase 0 (M2:=(R2)) rfl
  refine Kgr ?_
  refine lxv (.int .i64 (i:Nat)) F (Jb (F.ev rfl)) fun a F=>?_
  refine lxv (.int .i64 ((i+1:Nat):Int)) F (Jz (u:=.int .i64 (i:Nat)) (v:=.int .i64 1) (fun ρ hx hy=>by simp only [execOp,hx,hy];simp [go_sem,hwr]) (F.ev rfl) rfl) fun a F=>?_
  refine lxv (.int .i64 ((i+1:Nat):Int)) F (Je (F.ev rfl)) fun a F=>?_
  refine Jc ?_
  refine Ku ?_
  refine ⟨⟨i+1,_,_,_,by omega,by rw [htk];exact l2,F.sub [4,0,3],HM⟩,?_⟩
  ·show n-(intOf (a.tmps.getD 4 undef)).toNat<n-(intOf (aS.tmps.getD 4 undef)).toNat
   rw [F.get 4 _ rfl,FS.get 4 _ rfl]
   show n-((i+1:Nat):Int).toNat<n-((i:Nat):Int).toNat
   omega
 ·refine Kgr ?_
  refine lxv (.int .i64 (i:Nat)) F (Jb (F.ev rfl)) fun a F=>?_
  refine lxv (.slice pa n cap) F (Jb (F.ev rfl)) fun a F=>?_
  refine lxv (.int .i64 (n:Nat)) F (Ko (F.ev rfl)) fun a F=>?_
  refine lxv (.bool false) F (Jz (u:=.int .i64 (i:Nat)) (v:=.int .i64 (n:Nat)) (fun ρ hx hy=>by simp only [execOp,hx,hy];simp [go_sem];omega) (F.ev rfl) (F.ev rfl)) fun a F=>?_
  refine Jc ?_
  refine Kgq ?_
  refine wp_cond_false (F.ev rfl) ?_
  refine Kgq ?_
  refine wp_exit ?_
  repeat (first | refine Kk ?_ | refine Kd ?_)
  obtain rfl:i=n:=by omega
  rw [List.take_of_length_le (Nat.le_of_eq r.1)] at lv
  refine Kgr ?_
  refine lxv (.slice (some ⟨gt,0,none⟩) i ct) F (Jb (F.ev rfl)) fun a F=>?_
  refine lxv (num 77) F (o_b77 rfl) fun a F=>?_
  refine Vv F HM (Ja rfl _) rfl (by rfl) (Vl (F.ev rfl)) fun a w gr F HM=>?_
  obtain ⟨g2,cap2,w2,hrun,R2,HM2,l2,kp2,dj2,nb2⟩:=Jiv (P:=Tryz.prog) (ρ:=a.eval) (s:=.tmp 22) (x:=.tmp 24) (dst:=some 25) (T:=24) (t:=27) (A:=[(gr,24,(Jes 77))]) (ys:=Jcj 77) Tryz.underlying27 hi0 hz0 hz1 hz2 rfl (by decide) HM lv (F.ev rfl) (F.ev rfl) rfl (World.news_of_block (HM.get 0 rfl)) (Jgk 77) (by decide) (by have:=r.len;unfold maxLen;omega) (by omega)
  replace HM:=HM2
  rw [show Jcj 77=flat [77] from rfl,← Jch] at l2
  clear kp2 dj2 nb2
  refine Ux (v:=.slice (some ⟨g2,0,none⟩) (i+1) cap2) F (Ja rfl _) rfl (by rfl) hrun fun a F=>?_
  refine lxv (.slice pa i cap) F (Jb (F.ev rfl)) fun a F=>?_
  refine lxv (.int .i64 (i:Nat)) F (Ko (F.ev rfl)) fun a F=>?_
  refine lxv (.slice (some ⟨g2,0,none⟩) i cap2) F (o_cutNum (k:=i) (by obtain ⟨_,_,e,h,_⟩:=l2.form;cases e;omega) (by obtain ⟨_,_,e,h,_⟩:=l2.form;cases e;omega) (F.ev rfl) (F.ev rfl)) fun a F=>?_
  refine lxv (.slice (some ⟨g2,0,none⟩) i cap2) F (Je (F.ev rfl)) fun a F=>?_
  refine Jc ?_
  replace HM:=HM.erase 0 (M2:=(R2)) rfl
  refine Kgq ?_
  refine wp_ret ?_
  repeat (first | refine Jt ?_ | refine Jo ?_)
  obtain ⟨_,cur,e1,hm1,_⟩:=l2.at (by omega)
  cases e1
  refine bodyPost_ret (Ua F rfl (s:=2) rfl) F.defers ⟨g2,cap2,rfl,HM.bel,?_⟩
  rcases l2.2 with ⟨e1,_⟩ | ⟨g3,cap3,cur3,e1,hm3,h1,h2,h3,h4⟩
  ·cases e1
  cases e1
  exact ⟨cur3,HM.own _ hm3,HM.at_ _ hm3,h1,h2,h3,h4⟩

theorem TW.c4 {base:Nat} {w:World} {g n cap:Nat} {xs:List Nat} (h:TW 24 4 base w g n cap (flat xs)) (hx:xs.length=n+1):∀ (i:Nat) (x:Nat),xs[i]? = some x→∀ u,Below w.heap.size w u→C4 u g (0+i*4) x:=fun i x hi u hb=>by
 obtain ⟨cur,h1,h2,h3,h4,h5,h6⟩:=h
 have hn:NR base w (.slice (some ⟨g,0,none⟩) xs.length cap) xs:=⟨Vy xs,Or.inr ⟨g,cap,cur,rfl,h1,h2,by omega,h4,h5,by rw [hx];exact h6⟩⟩
 obtain ⟨g',cap',cur',e,_,hat,_,_,hp⟩:=hn.row (by intro e;rw [e] at hx;simp at hx)
 cases e
 exact hp.c4 (hat.on hb) hi
theorem TW.ci {base:Nat} {w:World} {g n cap:Nat} {xs:List Int} (h:TW 3 1 base w g n cap (Jiy xs)) (hx:xs.length=n+1):∀ (i:Nat) (x:Int),xs[i]? = some x→∀ u,Below w.heap.size w u→u.cell? ⟨g,0+i*1,none⟩=some (.int .i64 x):=fun i x hi u hb=>by
 obtain ⟨cur,h1,h2,h3,h4,h5,h6⟩:=h
 rw [(h2.on hb).cell,Nat.zero_add,Nat.mul_one]
 have e:(Jiy xs)[i]? = some (.int .i64 x):=by simp [Jiy,hi]
 rw [← h6,List.getElem?_take] at e
 split at e
 ·simpa using e
 ·cases e
theorem TW.on {T:TypeId} {sz base:Nat} {w w':World} {g n cap:Nat} {ys:List Value} (h:TW T sz base w g n cap ys) (hb:Below w.heap.size w w'):TW T sz base w' g n cap ys:=by
 obtain ⟨cur,h1,h2,h3⟩:=h
 exact ⟨cur,h1,h2.on hb,h3⟩
theorem Jbo (gt n ct cap b:Nat) (pa:Option Addr) (xs:List Nat) (w0:World) (hn:n≤1000) (tw:TW 24 4 b w0 gt n ct (flat (xs++[77]))) (r:RN w0.heap.size w0 pa n cap xs):Calls Tryz.prog 14 #[.slice (some ⟨gt,0,none⟩) n ct,.slice pa n cap] w0 fun e w'=>e=.returned (.bool true)∧Below w0.heap.size w0 w':=by
 refine Jx (args:=[.slice (some ⟨gt,0,none⟩) n ct,.slice pa n cap]) Tryz.func14 rfl Tryz.ntmps14 (by rfl) fun a F HM=>?_
 have hct:n+1≤ct:=by obtain ⟨_,_,_,h3,_⟩:=tw;exact h3
 have HT:=tw.c4 (by simp [r.1])
 refine Kgr ?_
 refine lxv (.bool false) F (Je rfl) fun a F=>?_
 refine Jc ?_
 refine Kgr ?_
 refine lxv (.slice (some ⟨gt,0,none⟩) n ct) F (Jb (F.ev rfl)) fun a F=>?_
 refine lxv (.int .i64 (n:Nat)) F (Ko (F.ev rfl)) fun a F=>?_
 refine lxv (.slice pa n cap) F (Jb (F.ev rfl)) fun a F=>?_
 refine lxv (.int .i64 (n:Nat)) F (Ko (F.ev rfl)) fun a F=>?_
 refine lxv (.bool false) F (Vn (b:=true) (decide_eq_true rfl) (F.ev rfl) (F.ev rfl) rfl) fun a F=>?_
 refine lxv (.bool false) F (Jb (F.ev rfl)) fun a F=>?_
 refine lxw 12 false (.slice (some ⟨gt,0,none⟩) n ct) F (Jb (F.ev rfl)) fun a F=>?_
 refine lxw 12 false (.int .i64 (ct:Nat)) F (o_capNum (F.ev rfl)) fun a F=>?_
 refine lxw 12 false (.slice pa n cap) F (Jb (F.ev rfl)) fun a F=>?_
 refine lxw 12 false (.int .i64 (n:Nat)) F (Ko (F.ev rfl)) fun a F=>?_
 refine lxw 12 false (.bool false) F (Jz (u:=.int .i64 (ct:Nat)) (v:=.int .i64 (n:Nat)) (fun ρ hx hy=>by simp only [execOp,hx,hy];simp [go_sem];omega) (F.ev rfl) (F.ev rfl)) fun a F=>?_
 refine lxv (.bool false) F (Kc (b:=false) (r:=.bool false) (F.ev rfl) rfl (F.ev rfl) rfl) fun a F=>?_
 refine Jc ?_
 refine Kgq ?_
 refine wp_cond_false (F.ev rfl) ?_
 refine Kgr ?_
 refine lxv (.int .i64 0) F (Je rfl) fun a F=>?_
 refine Jc ?_
 refine Kgq ?_
 refine wp_loop (fun a w=>∃ i:Nat,i≤n∧Fr a 46 [(5,.int .i64 (i:Nat)),(0,.slice (some ⟨gt,0,none⟩) n ct),(1,.slice pa n cap)] []∧Mem w0.heap.size w0 w []) (fun a _=>n-(intOf (a.tmps.getD 5 undef)).toNat) ⟨0,Nat.zero_le _,F.sub [5,0,1],HM⟩ ?_
 clear F HM
 rintro aS wS ⟨i,hi,FS,HM⟩
 have F:=FS
 by_cases hlt:i<n
 ·refine Kgr ?_
  refine lxv (.int .i64 (i:Nat)) F (Jb (F.ev rfl)) fun a F=>?_
  refine lxv (.slice pa n cap) F (Jb (F.ev rfl)) fun a F=>?_
  refine lxv (.int .i64 (n:Nat)) F (Ko (F.ev rfl)) fun a F=>?_
  refine lxv (.bool true) F (Jz (u:=.int .i64 (i:Nat)) (v:=.int .i64 (n:Nat)) (fun ρ hx hy=>by simp only [execOp,hx,hy];simp [go_sem];omega) (F.ev rfl) (F.ev rfl)) fun a F=>?_
  refine Jc ?_
  refine Kgq ?_
  refine wp_cond_true (F.ev rfl) ?_
  have hwr:=r.room hlt
  obtain ⟨gl,ol,hpa,hil,hxb,hc⟩:=r.get hlt
  have hd:=HT i xs[i] (by rw [List.getElem?_append_left hil];exact List.getElem?_eq_getElem hil)
  generalize xs[i]=x at *
  refine Kgq ?_
  refine Kg (S:=fun w'=>Mem _ _ w' []) HM (fun _ h=>h) (by kernel_rfl) fun w HM HBW=>?_
  clear HBW
  try simp only [List.append_eq,List.cons_append,List.nil_append]
  refine Kt [⟨0,25,[],.val (.slice (some ⟨gt,0,none⟩) n ct),true⟩,
   ⟨1,26,[0],.val (.int .i64 (i:Nat)),true⟩,
   ⟨2,27,[0,1],.val (.pointer (some ⟨gt,0+i*4,none⟩)),true⟩,
   ⟨3,28,[2],.val (num x),true⟩,
   ⟨4,29,[3],.val (.slice pa n cap),true⟩,
   ⟨5,30,[4],.val (.int .i64 (i:Nat)),true⟩,
   ⟨6,31,[4,5],.val (.pointer (some ⟨gl,ol+i*4,none⟩)),true⟩,
   ⟨7,32,[6],.val (num x),true⟩,
   ⟨8,33,[3,7],.val (.bool false),true⟩] 0 _ F HM (fun _ h=>h.subl (by first | exact List.Sublist.refl _ | (repeat (first | exact List.Sublist.refl _ | refine List.Sublist.cons_cons _ ?_ | refine List.Sublist.cons _ ?_)))) (by kernel_rfl) (by rfl) ?_ ?_ ?_ ?_ ?_ ?_ ?_
  ·kernel_rfl
  ·exact of_decide_eq_true (by kernel_rfl)
  ·(repeat refine all_cons ⟨_,by rfl,by rfl⟩ ?_);exact all_nil
  ·kernel_rfl
  ·(repeat (refine all_cons ?_ ?_;rotate_left));exact all_nil
   ·exact Wt _ _ _ _ _ _ _ (by rfl) (by rfl) Jg (fun ρ w kn hs=>Jb (kn _ _ (F.old (by rfl) rfl)))
   ·exact Wt _ _ _ _ _ _ _ (by rfl) (by rfl) Jg (fun ρ w kn hs=>Jb (kn _ _ (F.old (by rfl) rfl)))
   ·exact crS (fun ρ w kn hs=>Kv hlt (kn _ _ (kc 0 25)) (kn _ _ (kc 1 26)))
   ·exact crS (fun ρ w kn hs=>Kh (kn _ _ (kc 2 27)) (hd _ hs.bel))
   ·exact Wt _ _ _ _ _ _ _ (by rfl) (by rfl) Jg (fun ρ w kn hs=>Jb (kn _ _ (F.old (by rfl) rfl)))
   ·exact Wt _ _ _ _ _ _ _ (by rfl) (by rfl) Jg (fun ρ w kn hs=>Jb (kn _ _ (F.old (by rfl) rfl)))
   ·exact crS (fun ρ w kn hs=>Kv hlt (by rw [← hpa];exact (kn _ _ (kc 4 29))) (kn _ _ (kc 5 30)))
   ·exact crS (fun ρ w kn hs=>Kh (kn _ _ (kc 6 31)) (hc _ hs.bel))
   ·exact crS (fun ρ w kn hs=>o_neqS (kn _ _ (kc 3 28)) (kn _ _ (kc 7 32)))
  ·(repeat (refine all_cons ?_ ?_;rotate_left));exact all_nil
   all_goals try exact sA
  intro gs rs a w hgs hrs F HM HBW HR HO HT
  obtain rfl:=nl0 rs hrs
  obtain rfl:=nl0 gs hgs
  clear hrs hgs HR HBW HO
  clear HT
  refine Ks (by kernel_rfl) ?_ _
  refine Kgq ?_
  refine wp_cond_false (F.ev rfl) ?_
  refine Kgr ?_
  refine lxv (.int .i64 (i:Nat)) F (Jb (F.ev rfl)) fun a F=>?_
  refine lxv (.int .i64 ((i+1:Nat):Int)) F (Jz (u:=.int .i64 (i:Nat)) (v:=.int .i64 1) (fun ρ hx hy=>by simp only [execOp,hx,hy];simp [go_sem,hwr]) (F.ev rfl) rfl) fun a F=>?_
  refine lxv (.int .i64 ((i+1:Nat):Int)) F (Je (F.ev rfl)) fun a F=>?_
  refine Jc ?_
  refine Ku ?_
  refine ⟨⟨i+1,by omega,F.sub [5,0,1],HM⟩,?_⟩
  ·show n-(intOf (a.tmps.getD 5 undef)).toNat<n-(intOf (aS.tmps.getD 5 undef)).toNat
   rw [F.get 5 _ rfl,FS.get 5 _ rfl]
   show n-((i+1:Nat):Int).toNat<n-((i:Nat):Int).toNat
   omega
 ·refine Kgr ?_
  refine lxv (.int .i64 (i:Nat)) F (Jb (F.ev rfl)) fun a F=>?_
  refine lxv (.slice pa n cap) F (Jb (F.ev rfl)) fun a F=>?_
  refine lxv (.int .i64 (n:Nat)) F (Ko (F.ev rfl)) fun a F=>?_
  refine lxv (.bool false) F (Jz (u:=.int .i64 (i:Nat)) (v:=.int .i64 (n:Nat)) (fun ρ hx hy=>by simp only [execOp,hx,hy];simp [go_sem];omega) (F.ev rfl) (F.ev rfl)) fun a F=>?_
  refine Jc ?_
  refine Kgq ?_
  refine wp_cond_false (F.ev rfl) ?_
  refine Kgq ?_
  refine wp_exit ?_
  repeat (first | refine Kk ?_ | refine Kd ?_)
  have hd:=HT n 77 (by rw [List.getElem?_append_right (by have:=r.1;omega)];simp [r.1])
  refine Kgr ?_
  refine lxv (.slice (some ⟨gt,0,none⟩) n ct) F (Jb (F.ev rfl)) fun a F=>?_
  refine lxv (.slice pa n cap) F (Jb (F.ev rfl)) fun a F=>?_
  refine lxv (.int .i64 (n:Nat)) F (Ko (F.ev rfl)) fun a F=>?_
  refine lxv (.int .i64 ((n+1:Nat):Int)) F (Jah (m:=n) (k:=1) (by omega) (F.ev rfl) rfl) fun a F=>?_
  refine lxv (.slice (some ⟨gt,0,none⟩) (n+1) ct) F (o_cutNum (k:=n+1) (by omega) (by omega) (F.ev rfl) (F.ev rfl)) fun a F=>?_
  refine lxv (.slice pa n cap) F (Jb (F.ev rfl)) fun a F=>?_
  refine lxv (.int .i64 (n:Nat)) F (Ko (F.ev rfl)) fun a F=>?_
  refine lxv (.pointer (some ⟨gt,0+n*4,none⟩)) F (Kv (i:=n) (l:=n+1) (by omega) (F.ev rfl) (F.ev rfl)) fun a F=>?_
  refine lxv (num 77) F (Kh (F.ev rfl) (hd _ HM.bel)) fun a F=>?_
  refine Jn F HM (Ja rfl _) rfl (by rfl) (Jw) fun a w gx F HM=>?_
  refine Jv F HM (Ja rfl _) rfl (k:=0) rfl (Jq (F.ev rfl) (F.ev rfl) (HM.get 0 rfl)) (M2:=[(gx,24,ncs 77)]) (rfl) fun w HM=>?_
  refine Jc ?_
  refine Kgr ?_
  refine lxv (num 77) F (Jp (F.ev rfl) (HM.get 0 rfl)) fun a F=>?_
  refine lxv (num 77) F (o_b77 rfl) fun a F=>?_
  refine lxv (.bool true) F (o_eqlS (F.ev rfl) (F.ev rfl)) fun a F=>?_
  refine lxv (.bool true) F (Je (F.ev rfl)) fun a F=>?_
  refine Jc ?_
  refine Kgq ?_
  refine wp_ret ?_
  repeat (first | refine Jt ?_ | refine Jo ?_)
  exact Kp F HM (Ua F rfl (s:=4) rfl)

end Go.Proofs.YtmmgmljkmmgjdaaGreatDoor
