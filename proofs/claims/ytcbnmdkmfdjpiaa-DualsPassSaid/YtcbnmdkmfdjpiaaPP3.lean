import Derived.Deep.Cut
import Derived.Test.YtcbnmdkmfdjpiaaPPx
import Derived.Test.YtcbnmdkmfdjpiaaPShort
namespace Go.Proofs.Ytcbnmdkmfdjpiaa
set_option maxRecDepth 100000
open Go.RowKit
set_option linter.unusedSimpArgs false
set_option linter.unusedVariables false
attribute [local go_sem ↓] Go.wp_at_zero Go.wp_at_succ

set_option maxRecDepth 100000 in
set_option maxHeartbeats 800000 in
theorem ttimes_w (P Q G H S A V gt n0:Nat) (M:List (Nat × TypeId × Array Value)) (w0 w:World) (c:∀ w,Calls Try.prog 39 #[grp P Q G H,num S,num A] w fun e w'=>e=.returned (.tuple #[num V,.int .i64 0])∧Below w.heap.size w w') (HM:Mem n0 w0 w ((gt,59,tcs P Q G H S)::M)):Calls Try.prog 51 #[.pointer (some ⟨gt,0,none⟩),num A] w fun e w2=>e=.returned (.tuple #[])∧Mem n0 w0 w2 ((gt,59,tcs P Q G H V)::M):=by
 refine Jat (args:=[.pointer (some ⟨gt,0,none⟩),num A]) HM Try.func51 rfl Try.ntmps51 (by rfl) fun a F HM=>?_
 refine Kgr ?_
 refine Jn F HM (Ja rfl _) rfl (by rfl) (Wp (F.ev rfl)) fun a w ga F HM=>?_
 refine Jf ?_
 refine Kgq ?_
 refine Ks (S:=fun _=>True) HM (fun _ h=>trivial) (by kernel_rfl) fun w HM HBW=>?_
 clear HBW
 try simp only [List.append_eq,List.cons_append,List.nil_append]
 refine Kw [⟨0,5,[],.val (.pointer (some ⟨gt,0,none⟩)),true⟩,
   ⟨1,6,[],.val (.pointer (some ⟨gt,0,none⟩)),true⟩,
   ⟨2,7,[1],.val (.pointer (some ⟨gt,0,none⟩)),true⟩,
   ⟨3,8,[2],.val (.pointer (some ⟨gt,0,none⟩)),true⟩,
   ⟨4,9,[3],.val (grp P Q G H),false⟩,
   ⟨5,10,[],.val (.pointer (some ⟨gt,0,none⟩)),true⟩,
   ⟨6,11,[5],.val (.pointer (some ⟨gt,0,none⟩)),true⟩,
   ⟨7,12,[6],.val (.pointer (some ⟨gt,16,none⟩)),true⟩,
   ⟨8,13,[7],.val (num S),false⟩,
   ⟨9,14,[],.val (num A),false⟩,
   ⟨14,18,[0],.val (.pointer (some ⟨gt,0,none⟩)),true⟩,
   ⟨15,19,[10],.val (.pointer (some ⟨gt,16,none⟩)),true⟩,
   ⟨10,15,[4,8,9],.val (.tuple #[num V,.int .i64 0]),false⟩,
   ⟨11,4,[12],.val (.tuple #[num V,.int .i64 0]),true⟩,
   ⟨12,16,[13],.val (num V),true⟩,
   ⟨13,17,[13],.val (.int .i64 0),true⟩] 1 _ F HM (fun _ _=>trivial) (by kernel_rfl) (by rfl) ?_ ?_ ?_ ?_ ?_ ?_ ?_
 ·kernel_rfl
 ·exact of_decide_eq_true (by kernel_rfl)
 ·(repeat refine all_cons ⟨_,by rfl,by rfl⟩ ?_);exact Jj
 ·kernel_rfl
 ·(repeat (refine all_cons ?_ ?_;rotate_left));exact Jj
  all_goals try exact Jq _ (by rfl)
  ·exact Ug _ _ _ _ _ _ _ (by rfl) (by rfl) Jh (fun ρ w kn hs=>Jc (kn _ _ (F.old (by rfl) rfl)))
  ·exact Ug _ _ _ _ _ _ _ (by rfl) (by rfl) Jh (fun ρ w kn hs=>Jc (kn _ _ (F.old (by rfl) rfl)))
  ·exact crS (fun ρ w kn hs=>Wi (kn _ _ (kc 1 6)))
  ·exact crS (fun ρ w kn hs=>o_fieldT0 (kn _ _ (kc 2 7)))
  ·exact Ug _ _ _ _ _ _ _ (by rfl) (by rfl) Jh (fun ρ w kn hs=>Jc (kn _ _ (F.old (by rfl) rfl)))
  ·exact crS (fun ρ w kn hs=>Wi (kn _ _ (kc 5 10)))
  ·exact crS (fun ρ w kn hs=>Xy (kn _ _ (kc 6 11)))
  ·exact crS (fun ρ w kn hs=>Wi (kn _ _ (kc 0 5)))
  ·exact crS (fun ρ w kn hs=>Xy (kn _ _ (kc 10 18)))
  ·exact crS (fun ρ w kn hs=>Jc (kn _ _ (kc 12 15)))
  ·exact crS (fun ρ w kn hs=>Jk (kn _ _ (kc 13 4)) rfl)
  ·exact crS (fun ρ w kn hs=>Jk (kn _ _ (kc 13 4)) rfl)
 ·(repeat (refine all_cons ?_ ?_;rotate_left));exact Jj
  all_goals try exact sA
  ·exact fun _=>Jbf _ _ _ _ _ _ (by rfl) (by rfl) (fun ρ w kn hb=>o_loadT0 (kn _ _ (kc 3 8)) ((HM.on hb).get 1 rfl))
  ·exact fun _=>Jbf _ _ _ _ _ _ (by rfl) (by rfl) (fun ρ w kn hb=>Jdj (kn _ _ (kc 7 12)) ((HM.on hb).get 1 rfl))
  ·exact fun _=>Jbf _ _ _ _ _ _ (by rfl) (by rfl) (fun ρ w kn hb=>Kg (kn _ _ (F.old (by rfl) rfl)) ((HM.on hb).get 0 rfl))
  ·exact fun _=>Jm _ 39 _ _ [.tmp 9,.tmp 13,.tmp 14] _ _ _ _ _ _ _ (by rfl) Try.func39 (by kernel_rfl) (by rfl) (by rfl) (Jh) (.cons (kc 4 9) (.cons (kc 8 13) (.cons (kc 9 14) .nil))) (c)
 intro gs rs a w hgs hrs F HM HBW HR HO HT
 obtain rfl:=nl0 rs hrs
 obtain rfl:=nl0 gs hgs
 clear hrs hgs HR HBW HO
 clear HT
 refine Vh (i:=16) HM (by kernel_rfl) (by rfl) rfl rfl (k:=1) rfl (o_storeT1 (F.ev rfl) (F.ev rfl) (HM.get 1 rfl)) (M2:=((ga,24,ncs A)::(gt,59,tcs P Q G H V)::M)) (by rw [setsT1];rfl) (fun _ _=>trivial) fun w HM=>?_
 refine Ui (by kernel_rfl) ?_ _
 replace HM:=HM.erase 0 (M2:=((gt,59,tcs P Q G H V)::M)) rfl
 refine Kgq ?_
 exact bodyPost_end (Vt rfl) F.defers ⟨rfl,HM⟩

theorem ttimes_any (P Q G H S A gt n0:Nat) (M:List (Nat × TypeId × Array Value)) (w0 w:World) (hQ:Q<2^256) (h1:1<Q) (hS:S<Q) (hA:A<Q) (HM:Mem n0 w0 w ((gt,59,tcs P Q G H S)::M)) :
  Calls Try.prog 51 #[.pointer (some ⟨gt,0,none⟩),num A] w fun e w2=>e=.returned (.tuple #[])∧Mem n0 w0 w2 ((gt,59,tcs P Q G H (S*A%Q))::M):=
 ttimes_w P Q G H S A _ gt n0 M w0 w (Jdb P Q G H S A hQ h1 hS hA) HM
set_option maxRecDepth 100000 in
set_option maxHeartbeats 800000 in
theorem tadd_w (P Q G H S A V gt n0:Nat) (M:List (Nat × TypeId × Array Value)) (w0 w:World) (c:∀ w,Calls Try.prog 10 #[grp P Q G H,num S,num A] w fun e w'=>e=.returned (.tuple #[num V,.int .i64 0])∧Below w.heap.size w w') (HM:Mem n0 w0 w ((gt,59,tcs P Q G H S)::M)):Calls Try.prog 52 #[.pointer (some ⟨gt,0,none⟩),num A] w fun e w2=>e=.returned (.tuple #[])∧Mem n0 w0 w2 ((gt,59,tcs P Q G H V)::M):=by
 refine Jat (args:=[.pointer (some ⟨gt,0,none⟩),num A]) HM Try.func52 rfl Try.ntmps52 (by rfl) fun a F HM=>?_
 refine Kgr ?_
 refine Jn F HM (Ja rfl _) rfl (by rfl) (Wp (F.ev rfl)) fun a w ga F HM=>?_
 refine Jf ?_
 refine Kgq ?_
 refine Ks (S:=fun _=>True) HM (fun _ h=>trivial) (by kernel_rfl) fun w HM HBW=>?_
 clear HBW
 try simp only [List.append_eq,List.cons_append,List.nil_append]
 refine Kw [⟨0,5,[],.val (.pointer (some ⟨gt,0,none⟩)),true⟩,
   ⟨1,6,[],.val (.pointer (some ⟨gt,0,none⟩)),true⟩,
   ⟨2,7,[1],.val (.pointer (some ⟨gt,0,none⟩)),true⟩,
   ⟨3,8,[2],.val (.pointer (some ⟨gt,0,none⟩)),true⟩,
   ⟨4,9,[3],.val (grp P Q G H),false⟩,
   ⟨5,10,[],.val (.pointer (some ⟨gt,0,none⟩)),true⟩,
   ⟨6,11,[5],.val (.pointer (some ⟨gt,0,none⟩)),true⟩,
   ⟨7,12,[6],.val (.pointer (some ⟨gt,16,none⟩)),true⟩,
   ⟨8,13,[7],.val (num S),false⟩,
   ⟨9,14,[],.val (num A),false⟩,
   ⟨14,18,[0],.val (.pointer (some ⟨gt,0,none⟩)),true⟩,
   ⟨15,19,[10],.val (.pointer (some ⟨gt,16,none⟩)),true⟩,
   ⟨10,15,[4,8,9],.val (.tuple #[num V,.int .i64 0]),false⟩,
   ⟨11,4,[12],.val (.tuple #[num V,.int .i64 0]),true⟩,
   ⟨12,16,[13],.val (num V),true⟩,
   ⟨13,17,[13],.val (.int .i64 0),true⟩] 1 _ F HM (fun _ _=>trivial) (by kernel_rfl) (by rfl) ?_ ?_ ?_ ?_ ?_ ?_ ?_
 ·kernel_rfl
 ·exact of_decide_eq_true (by kernel_rfl)
 ·(repeat refine all_cons ⟨_,by rfl,by rfl⟩ ?_);exact Jj
 ·kernel_rfl
 ·(repeat (refine all_cons ?_ ?_;rotate_left));exact Jj
  all_goals try exact Jq _ (by rfl)
  ·exact Ug _ _ _ _ _ _ _ (by rfl) (by rfl) Jh (fun ρ w kn hs=>Jc (kn _ _ (F.old (by rfl) rfl)))
  ·exact Ug _ _ _ _ _ _ _ (by rfl) (by rfl) Jh (fun ρ w kn hs=>Jc (kn _ _ (F.old (by rfl) rfl)))
  ·exact crS (fun ρ w kn hs=>Wi (kn _ _ (kc 1 6)))
  ·exact crS (fun ρ w kn hs=>o_fieldT0 (kn _ _ (kc 2 7)))
  ·exact Ug _ _ _ _ _ _ _ (by rfl) (by rfl) Jh (fun ρ w kn hs=>Jc (kn _ _ (F.old (by rfl) rfl)))
  ·exact crS (fun ρ w kn hs=>Wi (kn _ _ (kc 5 10)))
  ·exact crS (fun ρ w kn hs=>Xy (kn _ _ (kc 6 11)))
  ·exact crS (fun ρ w kn hs=>Wi (kn _ _ (kc 0 5)))
  ·exact crS (fun ρ w kn hs=>Xy (kn _ _ (kc 10 18)))
  ·exact crS (fun ρ w kn hs=>Jc (kn _ _ (kc 12 15)))
  ·exact crS (fun ρ w kn hs=>Jk (kn _ _ (kc 13 4)) rfl)
  ·exact crS (fun ρ w kn hs=>Jk (kn _ _ (kc 13 4)) rfl)
 ·(repeat (refine all_cons ?_ ?_;rotate_left));exact Jj
  all_goals try exact sA
  ·exact fun _=>Jbf _ _ _ _ _ _ (by rfl) (by rfl) (fun ρ w kn hb=>o_loadT0 (kn _ _ (kc 3 8)) ((HM.on hb).get 1 rfl))
  ·exact fun _=>Jbf _ _ _ _ _ _ (by rfl) (by rfl) (fun ρ w kn hb=>Jdj (kn _ _ (kc 7 12)) ((HM.on hb).get 1 rfl))
  ·exact fun _=>Jbf _ _ _ _ _ _ (by rfl) (by rfl) (fun ρ w kn hb=>Kg (kn _ _ (F.old (by rfl) rfl)) ((HM.on hb).get 0 rfl))
  ·exact fun _=>Jm _ 10 _ _ [.tmp 9,.tmp 13,.tmp 14] _ _ _ _ _ _ _ (by rfl) Try.func10 (by kernel_rfl) (by rfl) (by rfl) (Jh) (.cons (kc 4 9) (.cons (kc 8 13) (.cons (kc 9 14) .nil))) (c)
 intro gs rs a w hgs hrs F HM HBW HR HO HT
 obtain rfl:=nl0 rs hrs
 obtain rfl:=nl0 gs hgs
 clear hrs hgs HR HBW HO
 clear HT
 refine Vh (i:=16) HM (by kernel_rfl) (by rfl) rfl rfl (k:=1) rfl (o_storeT1 (F.ev rfl) (F.ev rfl) (HM.get 1 rfl)) (M2:=((ga,24,ncs A)::(gt,59,tcs P Q G H V)::M)) (by rw [setsT1];rfl) (fun _ _=>trivial) fun w HM=>?_
 refine Ui (by kernel_rfl) ?_ _
 replace HM:=HM.erase 0 (M2:=((gt,59,tcs P Q G H V)::M)) rfl
 refine Kgq ?_
 exact bodyPost_end (Vt rfl) F.defers ⟨rfl,HM⟩

theorem tadd_any (P Q G H S A gt n0:Nat) (M:List (Nat × TypeId × Array Value)) (w0 w:World) (hQ:Q<2^256) (h1:1<Q) (hS:S<Q) (hA:A<Q) (HM:Mem n0 w0 w ((gt,59,tcs P Q G H S)::M)) :
  Calls Try.prog 52 #[.pointer (some ⟨gt,0,none⟩),num A] w fun e w2=>e=.returned (.tuple #[])∧Mem n0 w0 w2 ((gt,59,tcs P Q G H ((S+A)%Q))::M):=
 tadd_w P Q G H S A _ gt n0 M w0 w (Jau P Q G H S A hQ h1 hS hA) HM
def RN (n0:Nat) (w:World) (a:Option Addr) (n cap:Nat) (xs:List Nat):Prop:=xs.length=n∧NSl n0 w a cap xs
theorem RN.get {n0:Nat} {w:World} {a:Option Addr} {n cap:Nat} {xs:List Nat} (h:RN n0 w a n cap xs) {i:Nat} (hi:i<n):∃ g o,a=some ⟨g,o,none⟩∧∃ hl:i<xs.length,xs[i]<2^256∧∀ u,Below n0 w u→C4 u g (o+i*4) xs[i]:=by
 have hl:i<xs.length:=by rw [h.1];exact hi
 obtain ⟨g,o,ha,hg,h0,h1,h2,h3⟩:=h.2.get hl rfl
 exact ⟨g,o,ha,hl,h.2.2.2.1 _ (List.getElem_mem hl),fun u hb=>⟨(hb.cell (p:=⟨g,o+i*4,none⟩) hg).trans h0,(hb.cell (p:=⟨g,o+i*4+1,none⟩) hg).trans h1,(hb.cell (p:=⟨g,o+i*4+2,none⟩) hg).trans h2,(hb.cell (p:=⟨g,o+i*4+3,none⟩) hg).trans h3⟩⟩
theorem RN.len {n0:Nat} {w:World} {a:Option Addr} {n cap:Nat} {xs:List Nat} (h:RN n0 w a n cap xs):n≤cap∧cap≤9223372036854775807:=⟨by rw [← h.1];exact h.2.1,h.2.2.1⟩
theorem RN.room {n0:Nat} {w:World} {a:Option Addr} {n cap:Nat} {xs:List Nat} (h:RN n0 w a n cap xs) {i:Nat} (hi:i<n):IntKind.i64.wrap ((i:Int)+1)=((i+1:Nat):Int):=by
 have:=h.len
 rw [IntKind.wrap_i64];omega
theorem RN.wr {n0:Nat} {w:World} {a:Option Addr} {n cap:Nat} {xs:List Nat} (h:RN n0 w a n cap xs) {i:Nat} (hi:i≤n):IntKind.i64.wrap (i:Int)=(i:Int):=by
 have:=h.len
 rw [IntKind.wrap_i64];omega
theorem RN.on {n0:Nat} {w w':World} {a:Option Addr} {n cap:Nat} {xs:List Nat} (h:RN n0 w a n cap xs) (hb:Below n0 w w'):RN n0 w' a n cap xs:=⟨h.1,h.2.below hb⟩
def Jcw (Q:Nat) (xs:List Nat):Bool:=xs.all fun x=>decide (1<Q∧x<Q)
section
variable {a:Act} {N:Nat} {L:List (Nat × Value)} {df:List Deferred} {w:World} {P:Program}
theorem Jgd {fn:Func} (F:Fr a N L df) {s t:Nat} {u v:Value} (hf:fn.results=#[.tmp s,.tmp t]) (h1:lk L s=some u) (h2:lk L t=some v):(results fn a.tmps).run P w=.ok (.tuple #[u,v]) w:=by
 have e1:=F.get s _ h1
 have e2:=F.get t _ h2
 rw [Array.getD_eq_getD_getElem?] at e1 e2
 simp [results,hf,go_sem,e1,e2]
end
set_option maxRecDepth 100000 in
set_option maxHeartbeats 800000 in
theorem areExp_any (P Q G H n cap:Nat) (pa:Option Addr) (xs:List Nat) (w0:World) (hQ:Q<2^256) (r:RN w0.heap.size w0 pa n cap xs):Calls Try.prog 28 #[grp P Q G H,.slice pa n cap] w0 fun e w'=>e=.returned (.bool (Jcw Q xs))∧Below w0.heap.size w0 w':=by
 refine Kc (args:=[grp P Q G H,.slice pa n cap]) Try.func28 rfl Try.ntmps28 (by rfl) fun a F HM=>?_
 refine Kgr ?_
 refine Jn F HM (Ja rfl _) rfl (by rfl) (Kn (F.ev rfl)) fun a w gg F HM=>?_
 refine lxv (.bool false) F (Jg rfl) fun a F=>?_
 refine Jf ?_
 refine Kgr ?_
 refine lxv (.slice pa n cap) F (Jc (F.ev rfl)) fun a F=>?_
 refine lxv (.int .i64 (n:Nat)) F (Ur (F.ev rfl)) fun a F=>?_
 refine lxv (.int .i64 0) F (Jc rfl) fun a F=>?_
 refine Jf ?_
 refine Kgq ?_
 refine wp_loop (fun a w=>∃ i:Nat,i≤n∧Fr a 25 [(11,.int .i64 (i:Nat)),(9,.slice pa n cap),(10,.int .i64 (n:Nat)),(2,.pointer (some ⟨gg,0,none⟩))] []∧Mem w0.heap.size w0 w [(gg,26,gcs P Q G H)]∧Jcw Q (xs.take i)=true) (fun a _=>n-(intOf (a.tmps.getD 11 undef)).toNat) ⟨0,Nat.zero_le _,F.sub [11,9,10,2],HM,by simp [Jcw]⟩ ?_
 clear F HM
 rintro aS wS ⟨i,hi,FS,HM,HE⟩
 have F:=FS
 by_cases hlt:i<n
 ·refine Kgr ?_
  refine lxv (.bool true) F (Ua (u:=.int .i64 (i:Nat)) (v:=.int .i64 (n:Nat)) (fun ρ hx hy=>by simp only [execOp,hx,hy];simp [go_sem];omega) (F.ev rfl) (F.ev rfl)) fun a F=>?_
  refine Jf ?_
  refine Kgq ?_
  refine wp_cond_true (F.ev rfl) ?_
  obtain ⟨gl,ol,rfl,hil,hxb,hc⟩:=r.get hlt
  have htk:xs.take (i+1)=xs.take i++[xs[i]]:=List.take_succ_eq_append_getElem hil
  generalize xs[i]=x at *
  refine Kgr ?_
  refine lxv (.pointer (some ⟨gl,ol+i*4,none⟩)) F (Jay hlt (F.ev rfl) (F.ev rfl)) fun a F=>?_
  refine lxv (num x) F (Xx (F.ev rfl) (hc _ HM.bel)) fun a F=>?_
  refine Jn F HM (Ja rfl _) rfl (by rfl) (Kd) fun a w gx F HM=>?_
  refine Ju F HM (Ja rfl _) rfl (k:=0) rfl (Ka (F.ev rfl) (F.ev rfl) (HM.get 0 rfl)) (M2:=[(gx,24,ncs x),(gg,26,gcs P Q G H)]) (rfl) fun w HM=>?_
  refine Jf ?_
  by_cases hgd:1<Q∧x<Q
  ·refine Kgr ?_
   refine lxv (grp P Q G H) F (Jy (F.ev rfl) (HM.get 1 rfl)) fun a F=>?_
   refine lxv (num x) F (Kg (F.ev rfl) (HM.get 0 rfl)) fun a F=>?_
   refine lxv (num x) F (Kg (F.ev rfl) (HM.get 0 rfl)) fun a F=>?_
   refine Jr F (Ja rfl _) rfl (by rfl) (Ji Try.func10 (by kernel_rfl) (by rfl) (.cons (F.ev rfl) (.cons (F.ev rfl) (.cons (F.ev rfl) .nil))) _) ((Jau P Q G H x x hQ hgd.1 hgd.2 hgd.2) _) fun a w z F=>?_
   replace HM:=HM.on z
   clear z
   refine lxv (.tuple #[num (((x+x)%Q)),.int .i64 0]) F (Jc (F.ev rfl)) fun a F=>?_
   refine lxv (num (((x+x)%Q))) F (Jk (F.ev rfl) rfl) fun a F=>?_
   refine lxv (.int .i64 0) F (Jk (F.ev rfl) rfl) fun a F=>?_
   refine Jn F HM (Ja rfl _) rfl (by rfl) (Kd) fun a w gv F HM=>?_
   refine Ju F HM (Ja rfl _) rfl (k:=0) rfl (Ka (F.ev rfl) (F.ev rfl) (HM.get 0 rfl)) (M2:=[(gv,24,ncs (((x+x)%Q))),(gx,24,ncs x),(gg,26,gcs P Q G H)]) (rfl) fun w HM=>?_
   refine lxv (.int .i64 0) F (Jg (F.ev rfl)) fun a F=>?_
   refine Jf ?_
   refine Kgr ?_
   refine lxv (.int .i64 0) F (Jc (F.ev rfl)) fun a F=>?_
   refine lxv (.bool false) F (Ua (u:=.int .i64 0) (v:=.int .i64 0) (fun ρ hx hy=>by simp only [execOp,hx,hy];simp [go_sem]) (F.ev rfl) rfl) fun a F=>?_
   refine Jf ?_
   refine Kgq ?_
   refine wp_cond_false (F.ev rfl) ?_
   refine Kgr ?_
   refine lxv (.int .i64 ((i+1:Nat):Int)) F (Ua (u:=.int .i64 (i:Nat)) (v:=.int .i64 1) (fun ρ hx hy=>by simp only [execOp,hx,hy];simp [go_sem,r.room hlt]) (F.ev rfl) rfl) fun a F=>?_
   refine lxv (.int .i64 ((i+1:Nat):Int)) F (Jc (F.ev rfl)) fun a F=>?_
   refine Jf ?_
   replace HM:=HM.erase 0 (M2:=[(gx,24,ncs x),(gg,26,gcs P Q G H)]) rfl
   replace HM:=HM.erase 0 (M2:=[(gg,26,gcs P Q G H)]) rfl
   refine Js ?_
   refine ⟨⟨i+1,by omega,F.sub [11,9,10,2],HM,?_⟩,?_⟩
   ·rw [htk];unfold Jcw at HE ⊢;rw [List.all_append,HE];simp [hgd]
   ·show n-(intOf (a.tmps.getD 11 undef)).toNat<n-(intOf (aS.tmps.getD 11 undef)).toNat
    rw [F.get 11 _ rfl,FS.get 11 _ rfl]
    show n-((i+1:Nat):Int).toNat<n-((i:Nat):Int).toNat
    omega
  ·refine Kgr ?_
   refine lxv (grp P Q G H) F (Jy (F.ev rfl) (HM.get 1 rfl)) fun a F=>?_
   refine lxv (num x) F (Kg (F.ev rfl) (HM.get 0 rfl)) fun a F=>?_
   refine lxv (num x) F (Kg (F.ev rfl) (HM.get 0 rfl)) fun a F=>?_
   refine Jr F (Ja rfl _) rfl (by rfl) (Ji Try.func10 (by kernel_rfl) (by rfl) (.cons (F.ev rfl) (.cons (F.ev rfl) (.cons (F.ev rfl) .nil))) _) ((Jei P Q G H x x hQ hxb hxb (fun h=>hgd ⟨h.1,h.2.1⟩)) _) fun a w z F=>?_
   replace HM:=HM.on z
   clear z
   refine lxv (.tuple #[num 0,.int .i64 1]) F (Jc (F.ev rfl)) fun a F=>?_
   refine lxv (num 0) F (Jk (F.ev rfl) rfl) fun a F=>?_
   refine lxv (.int .i64 1) F (Jk (F.ev rfl) rfl) fun a F=>?_
   refine Jn F HM (Ja rfl _) rfl (by rfl) (Kd) fun a w gv F HM=>?_
   refine Ju F HM (Ja rfl _) rfl (k:=0) rfl (Ka (F.ev rfl) (F.ev rfl) (HM.get 0 rfl)) (M2:=[(gv,24,ncs 0),(gx,24,ncs x),(gg,26,gcs P Q G H)]) (rfl) fun w HM=>?_
   refine lxv (.int .i64 1) F (Jg (F.ev rfl)) fun a F=>?_
   refine Jf ?_
   refine Kgr ?_
   refine lxv (.int .i64 1) F (Jc (F.ev rfl)) fun a F=>?_
   refine lxv (.bool true) F (Ua (u:=.int .i64 1) (v:=.int .i64 0) (fun ρ hx hy=>by simp only [execOp,hx,hy];simp [go_sem]) (F.ev rfl) rfl) fun a F=>?_
   refine Jf ?_
   refine Kgq ?_
   refine wp_cond_true (F.ev rfl) ?_
   refine Kgr ?_
   refine lxv (.bool false) F (Jg rfl) fun a F=>?_
   refine Jf ?_
   have hV:Jcw Q xs=false:=by
    rw [← List.take_append_drop (i+1) xs,htk];unfold Jcw;rw [List.all_append,List.all_append];simp [hgd]
   rw [hV]
   refine Kgq ?_
   refine wp_ret ?_
   repeat (first | refine Jv ?_ | refine Jp ?_)
   exact Kv F HM (Kt F rfl (s:=4) rfl)
 ·refine Kgr ?_
  refine lxv (.bool false) F (Ua (u:=.int .i64 (i:Nat)) (v:=.int .i64 (n:Nat)) (fun ρ hx hy=>by simp only [execOp,hx,hy];simp [go_sem];omega) (F.ev rfl) (F.ev rfl)) fun a F=>?_
  refine Jf ?_
  refine Kgq ?_
  refine wp_cond_false (F.ev rfl) ?_
  refine Kgq ?_
  refine wp_exit ?_
  repeat (first | refine Vu ?_ | refine Vf ?_)
  have hV:Jcw Q xs=true:=by rw [← HE,List.take_of_length_le (by have:=r.1;omega)]
  refine Kgr ?_
  refine lxv (.bool true) F (Jg rfl) fun a F=>?_
  refine Jf ?_
  rw [hV]
  refine Kgq ?_
  refine wp_ret ?_
  repeat (first | refine Jv ?_ | refine Jp ?_)
  exact Kv F HM (Kt F rfl (s:=4) rfl)

theorem Jdm {Q x c:Nat} (h1:1<Q) (z:Int):(Ki Q z*x%Q+c)%Q=Ki Q ((c:Int)+(x:Int)*z):=by
 refine Cg.eq (Nat.mod_lt _ (by omega)) (Xc h1 _) ?_
 rw [Int.natCast_emod,Int.natCast_add,Int.natCast_emod,Int.natCast_mul]
 refine (Cg.emod Q _).trans (((Cg.emod Q _).add (Cg.refl Q _)).trans ?_)
 refine ((((Xd h1 z).mul (Cg.refl Q (x:Int))).add (Cg.refl Q (c:Int))).trans (Cg.of_eq ?_)).trans (Xd h1 _).symm
 grind
set_option maxRecDepth 100000 in
set_option maxHeartbeats 800000 in
theorem downward_any (P Q G H X gt n0 n cap:Nat) (pa:Option Addr) (ps:List Nat) (M:List (Nat × TypeId × Array Value)) (w0 w:World) (hQ:Q<2^256) (h1:1<Q) (hX:X<Q) (hp:∀ c∈ps,c<Q) (r:RN n0 w0 pa n cap ps) (HM:Mem n0 w0 w ((gt,59,tcs P Q G H 0)::M)):Calls Try.prog 50 #[.slice pa n cap,num X,.func (.func 51) #[.pointer (some ⟨gt,0,none⟩)] #[],.func (.func 52) #[.pointer (some ⟨gt,0,none⟩)] #[]] w fun e w2=>e=.returned (.tuple #[])∧Mem n0 w0 w2 ((gt,59,tcs P Q G H (Ki Q (evZ (zs ps) X)))::M):=by
 refine Jat (args:=[.slice pa n cap,num X,.func (.func 51) #[.pointer (some ⟨gt,0,none⟩)] #[],.func (.func 52) #[.pointer (some ⟨gt,0,none⟩)] #[]]) HM Try.func50 rfl Try.ntmps50 (by rfl) fun a F HM=>?_
 refine Kgr ?_
 refine Jn F HM (Ja rfl _) rfl (by rfl) (Wp (F.ev rfl)) fun a w gx F HM=>?_
 refine Jf ?_
 replace HM:=HM.front 1 rfl (M2:=((gt,59,tcs P Q G H 0)::(gx,24,ncs X)::M)) rfl
 refine Kgr ?_
 refine lxv (.slice pa n cap) F (Jc (F.ev rfl)) fun a F=>?_
 refine lxv (.int .i64 (n:Nat)) F (Ur (F.ev rfl)) fun a F=>?_
 refine lxv (.int .i64 0) F (Jc rfl) fun a F=>?_
 refine Jf ?_
 refine Kgq ?_
 refine wp_loop (fun a w=>∃ i S:Nat,i≤n∧S=Ki Q (evZ (zs (ps.drop (n-i))) X)∧Fr a 28 [(11,.int .i64 (i:Nat)),(0,.slice pa n cap),(10,.int .i64 (n:Nat)),(2,.func (.func 51) #[.pointer (some ⟨gt,0,none⟩)] #[]),(3,.func (.func 52) #[.pointer (some ⟨gt,0,none⟩)] #[]),(5,.pointer (some ⟨gx,0,none⟩))] []∧Mem n0 w0 w ((gt,59,tcs P Q G H S)::(gx,24,ncs X)::M)) (fun a _=>n-(intOf (a.tmps.getD 11 undef)).toNat) ⟨0,0,Nat.zero_le _,by rw [Nat.sub_zero,List.drop_of_length_le (Nat.le_of_eq r.1)];exact (sof_zero h1).symm,F.sub [11,0,10,2,3,5],HM⟩ ?_
 clear F HM
 rintro aS wS ⟨i,S,hi,hS,FS,HM⟩
 have F:=FS
 by_cases hlt:i<n
 ·refine Kgr ?_
  refine lxv (.bool true) F (Ua (u:=.int .i64 (i:Nat)) (v:=.int .i64 (n:Nat)) (fun ρ hx hy=>by simp only [execOp,hx,hy];simp [go_sem];omega) (F.ev rfl) (F.ev rfl)) fun a F=>?_
  refine Jf ?_
  refine Kgq ?_
  refine wp_cond_true (F.ev rfl) ?_
  refine Kgr ?_
  refine lxv (.int .i64 (i:Nat)) F (Jc (F.ev rfl)) fun a F=>?_
  refine lxv (.int .i64 (i:Nat)) F (Jg (F.ev rfl)) fun a F=>?_
  refine Jf ?_
  have hlt2:n-1-i<n:=by omega
  obtain ⟨gl,ol,rfl,hil,hxb,hc⟩:=r.get hlt2
  have htk:ps.drop (n-(i+1))=ps[n-1-i]::ps.drop (n-i):=by rw [show n-(i+1)=n-1-i by omega,List.drop_eq_getElem_cons hil,show n-1-i+1=n-i by omega]
  have hcQ:=hp _ (List.getElem_mem hil)
  generalize ps[n-1-i]=c at *
  have hSQ:S<Q:=by rw [hS];exact Xc h1 _
  have hT:=Nat.mod_lt (S*X) (show 0<Q by omega)
  have hm1:IntKind.i64.wrap ((n:Int)-1)=((n-1:Nat):Int):=by have:=r.len;rw [IntKind.wrap_i64];omega
  have hm2:IntKind.i64.wrap (((n-1:Nat):Int)-(i:Int))=((n-1-i:Nat):Int):=by have:=r.len;rw [IntKind.wrap_i64];omega
  refine Kgr ?_
  refine lxv (.func (.func 51) #[.pointer (some ⟨gt,0,none⟩)] #[]) F (Jc (F.ev rfl)) fun a F=>?_
  refine lxv (num X) F (Kg (F.ev rfl) (HM.get 1 rfl)) fun a F=>?_
  refine Jr F (Ja rfl _) rfl (by rfl) (run_callVB (rl:=[.pointer (some ⟨gt,0,none⟩)]) Try.func51 (by kernel_rfl) (by rfl) (F.ev rfl) (.cons (F.ev rfl) .nil) _) (ttimes_any P Q G H S X gt _ _ _ _ hQ h1 hSQ hX HM) fun a w HM F=>?_
  refine Jf ?_
  refine Kgr ?_
  refine lxv (.func (.func 52) #[.pointer (some ⟨gt,0,none⟩)] #[]) F (Jc (F.ev rfl)) fun a F=>?_
  refine lxv (.slice (some ⟨gl,ol,none⟩) n cap) F (Jc (F.ev rfl)) fun a F=>?_
  refine lxv (.slice (some ⟨gl,ol,none⟩) n cap) F (Jc (F.ev rfl)) fun a F=>?_
  refine lxv (.int .i64 (n:Nat)) F (Ur (F.ev rfl)) fun a F=>?_
  refine lxv (.int .i64 ((n-1:Nat):Int)) F (Ua (u:=.int .i64 (n:Nat)) (v:=.int .i64 1) (fun ρ hx hy=>by simp only [execOp,hx,hy];simp [go_sem,hm1]) (F.ev rfl) rfl) fun a F=>?_
  refine lxv (.int .i64 (i:Nat)) F (Jc (F.ev rfl)) fun a F=>?_
  refine lxv (.int .i64 ((n-1-i:Nat):Int)) F (Ua (u:=.int .i64 ((n-1:Nat):Int)) (v:=.int .i64 (i:Nat)) (fun ρ hx hy=>by simp only [execOp,hx,hy];simp [go_sem,hm2]) (F.ev rfl) (F.ev rfl)) fun a F=>?_
  refine lxv (.pointer (some ⟨gl,ol+(n-1-i)*4,none⟩)) F (Jay hlt2 (F.ev rfl) (F.ev rfl)) fun a F=>?_
  refine lxv (num c) F (Xx (F.ev rfl) (hc _ HM.bel)) fun a F=>?_
  refine Jr F (Ja rfl _) rfl (by rfl) (run_callVB (rl:=[.pointer (some ⟨gt,0,none⟩)]) Try.func52 (by kernel_rfl) (by rfl) (F.ev rfl) (.cons (F.ev rfl) .nil) _) (tadd_any P Q G H _ c gt _ _ _ _ hQ h1 hT hcQ HM) fun a w HM F=>?_
  refine Jf ?_
  refine Kgr ?_
  refine lxv (.int .i64 ((i+1:Nat):Int)) F (Ua (u:=.int .i64 (i:Nat)) (v:=.int .i64 1) (fun ρ hx hy=>by simp only [execOp,hx,hy];simp [go_sem,r.room hlt]) (F.ev rfl) rfl) fun a F=>?_
  refine lxv (.int .i64 ((i+1:Nat):Int)) F (Jc (F.ev rfl)) fun a F=>?_
  refine Jf ?_
  refine Js ?_
  refine ⟨⟨i+1,(S*X%Q+c)%Q,by omega,?_,F.sub [11,0,10,2,3,5],HM⟩,?_⟩
  ·rw [htk,hS,Jdm h1];rfl
  ·show n-(intOf (a.tmps.getD 11 undef)).toNat<n-(intOf (aS.tmps.getD 11 undef)).toNat
   rw [F.get 11 _ rfl,FS.get 11 _ rfl]
   show n-((i+1:Nat):Int).toNat<n-((i:Nat):Int).toNat
   omega
 ·refine Kgr ?_
  refine lxv (.bool false) F (Ua (u:=.int .i64 (i:Nat)) (v:=.int .i64 (n:Nat)) (fun ρ hx hy=>by simp only [execOp,hx,hy];simp [go_sem];omega) (F.ev rfl) (F.ev rfl)) fun a F=>?_
  refine Jf ?_
  refine Kgq ?_
  refine wp_cond_false (F.ev rfl) ?_
  refine Kgq ?_
  refine wp_exit ?_
  repeat (first | refine Vu ?_ | refine Vf ?_)
  obtain rfl:i=n:=by omega
  rw [Nat.sub_self,List.drop_zero] at hS
  subst hS
  replace HM:=HM.erase 1 (M2:=((gt,59,tcs P Q G H (Ki Q (evZ (zs ps) X)))::M)) rfl
  refine Kgq ?_
  exact bodyPost_end (Vt rfl) F.defers ⟨rfl,HM⟩

set_option maxRecDepth 100000 in
set_option maxHeartbeats 800000 in
theorem value_any (P Q G H X n cap:Nat) (pa:Option Addr) (ps:List Nat) (w0:World) (hQ:Q<2^256) (h1:1<Q) (hX:X<Q) (hp:∀ c∈ps,c<Q) (r:RN w0.heap.size w0 pa n cap ps):Calls Try.prog 31 #[grp P Q G H,.slice pa n cap,num X] w0 fun e w'=>e=.returned (num (Ki Q (evZ (zs ps) X)))∧Below w0.heap.size w0 w':=by
 refine Kc (args:=[grp P Q G H,.slice pa n cap,num X]) Try.func31 rfl Try.ntmps31 (by rfl) fun a F HM=>?_
 refine Kgr ?_
 refine Jn F HM (Ja rfl _) rfl (by rfl) (Kn (F.ev rfl)) fun a w gg F HM=>?_
 refine Jn F HM (Ja rfl _) rfl (by rfl) (Wp (F.ev rfl)) fun a w gx F HM=>?_
 refine Jn F HM (Ja rfl _) rfl (by rfl) (Kd) fun a w go F HM=>?_
 refine Jf ?_
 refine Kgr ?_
 refine lxv (grp P Q G H) F (Jy (F.ev rfl) (HM.get 2 rfl)) fun a F=>?_
 refine lxv (tal P Q G H 0) F (o_buildT1 (F.ev rfl)) fun a F=>?_
 refine Jn F HM (Ja rfl _) rfl (by rfl) (o_allocT) fun a w gt F HM=>?_
 refine Ju F HM (Ja rfl _) rfl (k:=0) rfl (o_storeT (F.ev rfl) (F.ev rfl) (HM.get 0 rfl)) (M2:=[(gt,59,tcs P Q G H 0),(go,24,ncs 0),(gx,24,ncs X),(gg,26,gcs P Q G H)]) (by rw [setsT];rfl) fun w HM=>?_
 refine Jf ?_
 refine Kgr ?_
 refine lxv (.slice pa n cap) F (Jc (F.ev rfl)) fun a F=>?_
 refine lxv (num X) F (Kg (F.ev rfl) (HM.get 2 rfl)) fun a F=>?_
 refine lxv (.func (.func 51) #[.pointer (some ⟨gt,0,none⟩)] #[]) F (o_mkB (F.ev rfl)) fun a F=>?_
 refine lxv (.func (.func 52) #[.pointer (some ⟨gt,0,none⟩)] #[]) F (o_mkB (F.ev rfl)) fun a F=>?_
 refine Jr F (Ja rfl _) rfl (by rfl) (Ji Try.func50 (by kernel_rfl) (by rfl) (.cons (F.ev rfl) (.cons (F.ev rfl) (.cons (F.ev rfl) (.cons (F.ev rfl) .nil)))) _) (downward_any P Q G H X gt _ n cap pa ps _ _ _ hQ h1 hX hp r HM) fun a w HM F=>?_
 refine Jf ?_
 refine Kgr ?_
 refine lxv (.pointer (some ⟨gt,16,none⟩)) F (Xy (F.ev rfl)) fun a F=>?_
 refine lxv (num (Ki Q (evZ (zs ps) X))) F (Jdj (F.ev rfl) (HM.get 0 rfl)) fun a F=>?_
 refine Ju F HM (Ja rfl _) rfl (k:=1) rfl (Ka (F.ev rfl) (F.ev rfl) (HM.get 1 rfl)) (M2:=[(gt,59,tcs P Q G H (Ki Q (evZ (zs ps) X))),(go,24,ncs (Ki Q (evZ (zs ps) X))),(gx,24,ncs X),(gg,26,gcs P Q G H)]) (rfl) fun w HM=>?_
 refine Jf ?_
 refine Kgq ?_
 refine wp_ret ?_
 repeat (first | refine Jv ?_ | refine Jp ?_)
 exact Kv F HM (Jfb F (s:=6) rfl rfl (HM.get 1 rfl))

end Go.Proofs.Ytcbnmdkmfdjpiaa
