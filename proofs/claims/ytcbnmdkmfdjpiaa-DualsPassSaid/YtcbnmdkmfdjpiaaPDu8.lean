import Derived.Deep.Cut
import Derived.Test.YtcbnmdkmfdjpiaaPDu7
import Derived.Test.YtcbnmdkmfdjpiaaPShort
namespace Go.Proofs.Ytcbnmdkmfdjpiaa
set_option maxRecDepth 100000
open Go.RowKit
set_option linter.unusedSimpArgs false
set_option linter.unusedVariables false
attribute [local go_sem ↓] Go.wp_at_zero Go.wp_at_succ

section
variable {x y:Operand} {dst:Option Tmp} {ty:TypeId} {pos:String} {after:Array Edge} {guard:Option (Nat × Bool)} {ρ:Operand→Value} {w:World} {g o:Nat}
theorem Ky (hx:ρ x=.pointer (some ⟨g,o,none⟩)) (hy:ρ y=.int .i64 0):(execOp ρ ⟨dst,.indexAddr 24 x y,ty,pos,after,guard⟩).run Try.prog w=.ok (.value (.pointer (some ⟨g,o,none⟩))) w:=by simp [execOp,hx,hy,go_sem]
theorem Kx {t:TypeId} {cs:Array Value} {n:Nat} (hx:ρ x=.pointer (some ⟨g,o,none⟩)) (h:At w g t cs) (hu:cs[o]? = some (.int .u64 (n:Nat))):(execOp ρ ⟨dst,.load 22 x,ty,pos,after,guard⟩).run Try.prog w=.ok (.value (.int .u64 (n:Nat))) w:=by
 have c0:w.cell? ⟨g,o,none⟩=some (.int .u64 (n:Nat)):=by rw [h.cell o,hu]
 simp [execOp,hx,go_sem,c0]
theorem Jex {m n:Nat} {b:Bool} (hb:decide (n<m)=b) (hx:ρ x=.int .u64 (m:Nat)) (hy:ρ y=.int .u64 (n:Nat)):(execOp ρ ⟨dst,.binOp .gtr 22 x y 22,ty,pos,after,guard⟩).run Try.prog w=.ok (.value (.bool b)) w:=by
 subst hb;simp only [execOp,hx,hy];simp [go_sem]
theorem Ww {m n:Nat} (hm:m<18446744073709551616) (hn:n=(2*m)%18446744073709551616) (hx:ρ (.const (.int .u64 2))=.int .u64 2) (hy:ρ y=.int .u64 (m:Nat)):(execOp ρ ⟨dst,.binOp .mul 22 (.const (.int .u64 2)) y 22,ty,pos,after,guard⟩).run Try.prog w=.ok (.value (.int .u64 (n:Nat))) w:=by
 have h:IntKind.u64.wrap (2*(m:Int))=(n:Int):=by rw [IntKind.wrap_u64,hn];omega
 simp only [execOp,hx,hy];simp [go_sem,h]
theorem Xw {m n:Nat} (hm:m<18446744073709551616) (hn:n=(m+1)%18446744073709551616) (hx:ρ x=.int .u64 (m:Nat)) (hy:ρ (.const (.int .u64 1))=.int .u64 1):(execOp ρ ⟨dst,.binOp .add 22 x (.const (.int .u64 1)) 22,ty,pos,after,guard⟩).run Try.prog w=.ok (.value (.int .u64 (n:Nat))) w:=by
 have h:IntKind.u64.wrap ((m:Int)+1)=(n:Int):=by rw [IntKind.wrap_u64,hn];omega
 simp only [execOp,hx,hy];simp [go_sem,h]
theorem Jbt {m n:Nat} {b:Bool} (hb:decide (m≠n)=b) (hx:ρ x=.int .u64 (m:Nat)) (hy:ρ y=.int .u64 (n:Nat)):(execOp ρ ⟨dst,.binOp .neq 22 x y 22,ty,pos,after,guard⟩).run Try.prog w=.ok (.value (.bool b)) w:=by
 subst hb;simp only [execOp,hx,hy]
 by_cases h:m=n
 ·subst h;simp [go_sem]
 ·have h2:¬ (m:Int)=(n:Int):=by omega
  simp [go_sem,h,h2]
end
theorem res_G {fn:Func} {a:Act} {N:Nat} {L:List (Nat × Value)} {df:List Deferred} {w:World} (F:Fr a N L df) {s gs P Q G H:Nat} (hf:fn.results=#[.cell s 26]) (h1:lk L s=some (.pointer (some ⟨gs,0,none⟩)))
  (A1:At w gs 26 (gcs P Q G H)):(results fn a.tmps).run Try.prog w=.ok (grp P Q G H) w:=by
 have e1:=F.get s _ h1
 rw [Array.getD_eq_getD_getElem?] at e1
 have c0:w.cell? ⟨gs,0,none⟩=some (.int .u64 (wd P 0)):=A1.cell 0
 have c1:w.cell? ⟨gs,1,none⟩=some (.int .u64 (wd P 1)):=A1.cell 1
 have c2:w.cell? ⟨gs,2,none⟩=some (.int .u64 (wd P 2)):=A1.cell 2
 have c3:w.cell? ⟨gs,3,none⟩=some (.int .u64 (wd P 3)):=A1.cell 3
 have c4:w.cell? ⟨gs,4,none⟩=some (.int .u64 (wd Q 0)):=A1.cell 4
 have c5:w.cell? ⟨gs,5,none⟩=some (.int .u64 (wd Q 1)):=A1.cell 5
 have c6:w.cell? ⟨gs,6,none⟩=some (.int .u64 (wd Q 2)):=A1.cell 6
 have c7:w.cell? ⟨gs,7,none⟩=some (.int .u64 (wd Q 3)):=A1.cell 7
 have c8:w.cell? ⟨gs,8,none⟩=some (.int .u64 (wd G 0)):=A1.cell 8
 have c9:w.cell? ⟨gs,9,none⟩=some (.int .u64 (wd G 1)):=A1.cell 9
 have c10:w.cell? ⟨gs,10,none⟩=some (.int .u64 (wd G 2)):=A1.cell 10
 have c11:w.cell? ⟨gs,11,none⟩=some (.int .u64 (wd G 3)):=A1.cell 11
 have c12:w.cell? ⟨gs,12,none⟩=some (.int .u64 (wd H 0)):=A1.cell 12
 have c13:w.cell? ⟨gs,13,none⟩=some (.int .u64 (wd H 1)):=A1.cell 13
 have c14:w.cell? ⟨gs,14,none⟩=some (.int .u64 (wd H 2)):=A1.cell 14
 have c15:w.cell? ⟨gs,15,none⟩=some (.int .u64 (wd H 3)):=A1.cell 15
 simp [results,hf,go_sem,e1,c0,c1,c2,c3,c4,c5,c6,c7,c8,c9,c10,c11,c12,c13,c14,c15]
theorem Xn (x:Nat) (hx:x<18446744073709551616) (w:World):Calls Try.prog 35 #[.int .u64 (x:Nat)] w fun e w'=>e=.returned (num x)∧Below w.heap.size w w':=by
 refine Kc (args:=[.int .u64 (x:Nat)]) Try.func35 rfl Try.ntmps35 (by rfl) fun a F HM=>?_
 refine Kgr ?_
 refine Jn F HM (Ja rfl _) rfl (by rfl) (Kd) fun a w go F HM=>?_
 refine Jf ?_
 refine Kgr ?_
 refine lxv (.int .u64 (x:Nat)) F (Jc (F.ev rfl)) fun a F=>?_
 refine Jr F (Ja rfl _) rfl (by rfl) (Ji Try.func23 (by kernel_rfl) (by rfl) (.cons (F.ev rfl) .nil) _) ((fun w=>Vd x hx w) _) fun a w z F=>?_
 replace HM:=HM.on z
 clear z
 refine Ju F HM (Ja rfl _) rfl (k:=0) rfl (Ka (F.ev rfl) (F.ev rfl) (HM.get 0 rfl)) (M2:=[(go,24,ncs x)]) rfl fun w HM=>?_
 refine Jf ?_
 refine Kgq ?_
 refine wp_ret ?_
 repeat (first | refine Jv ?_ | refine Jp ?_)
 exact Kv F HM (Jfb F (s:=2) rfl rfl (HM.get 0 rfl))
theorem known8_any (w:World):Calls Try.prog 14 #[] w fun e w'=>e=.returned (grp 23 11 4 9)∧Below w.heap.size w w':=by
 refine Kc (args:=[]) Try.func14 rfl Try.ntmps14 (by rfl) fun a F HM=>?_
 refine Kgr ?_
 refine Jn F HM (Ja rfl _) rfl (by rfl) (o_allocG) fun a w go F HM=>?_
 refine Jf ?_
 refine Kgr ?_
 refine Jr F (Ja rfl _) rfl (by rfl) (Ji Try.func35 (by kernel_rfl) (by rfl) (.cons rfl .nil) _) ((fun w=>Xn 23 (by decide) w) _) fun a w z F=>?_
 replace HM:=HM.on z
 clear z
 refine Jr F (Ja rfl _) rfl (by rfl) (Ji Try.func35 (by kernel_rfl) (by rfl) (.cons rfl .nil) _) ((fun w=>Xn 11 (by decide) w) _) fun a w z F=>?_
 replace HM:=HM.on z
 clear z
 refine Jr F (Ja rfl _) rfl (by rfl) (Ji Try.func35 (by kernel_rfl) (by rfl) (.cons rfl .nil) _) ((fun w=>Xn 4 (by decide) w) _) fun a w z F=>?_
 replace HM:=HM.on z
 clear z
 refine Jr F (Ja rfl _) rfl (by rfl) (Ji Try.func35 (by kernel_rfl) (by rfl) (.cons rfl .nil) _) ((fun w=>Xn 9 (by decide) w) _) fun a w z F=>?_
 replace HM:=HM.on z
 clear z
 refine lxv (grp 23 11 4 9) F (o_buildG (F.ev rfl) (F.ev rfl) (F.ev rfl) (F.ev rfl)) fun a F=>?_
 refine Ju F HM (Ja rfl _) rfl (k:=0) rfl (o_storeG (F.ev rfl) (F.ev rfl) (HM.get 0 rfl)) (M2:=[(go,26,gcs 23 11 4 9)]) rfl fun w HM=>?_
 refine Jf ?_
 refine Kgq ?_
 refine wp_ret ?_
 repeat (first | refine Jv ?_ | refine Jp ?_)
 exact Kv F HM (res_G F (s:=0) rfl rfl (HM.get 0 rfl))
set_option maxRecDepth 100000 in
set_option maxHeartbeats 800000 in
theorem ofU_any (gu n cap:Nat) (xs:List Nat) (w0:World) (hat:At w0 gu 22 (us xs)) (hn:xs.length=n) (hx64:∀ x∈xs,x<18446744073709551616) (hb:n≤1000):Calls Try.prog 16 #[.slice (some ⟨gu,0,none⟩) n cap] w0 fun e w'=>∃ u,e=.returned u∧Below w0.heap.size w0 w'∧∃ a2 cap2,u=.slice a2 n cap2∧RN w'.heap.size w' a2 n cap2 xs∧(0<n→∃ g,a2=some ⟨g,0,none⟩):=by
 refine Kc (args:=[.slice (some ⟨gu,0,none⟩) n cap]) Try.func16 rfl Try.ntmps16 (by rfl) fun a F HM=>?_
 refine Kgr ?_
 refine lxv (.slice none 0 0) F (Jg rfl) fun a F=>?_
 refine Jf ?_
 refine Kgr ?_
 refine lxv (.slice none 0 0) F (Jg rfl) fun a F=>?_
 refine Jf ?_
 refine Kgr ?_
 refine lxv (.int .i64 0) F (Jg rfl) fun a F=>?_
 refine Jf ?_
 refine Kgq ?_
 refine wp_loop (fun a w=>∃ (i:Nat) (v:Value) (R:List (Nat × TypeId × Array Value)),i≤n∧LR R v (xs.take i)∧Fr a 20 [(4,.int .i64 (i:Nat)),(0,.slice (some ⟨gu,0,none⟩) n cap),(3,v)] []∧Mem w0.heap.size w0 w R) (fun a _=>n-(intOf (a.tmps.getD 4 undef)).toNat) ⟨0,_,[],Nat.zero_le _,LR.nil _,F.sub [4,0,3],HM⟩ ?_
 clear F HM
 rintro aS wS ⟨i,v,R,hi,lv,FS,HM⟩
 have F:=FS
 by_cases hlt:i<n
 ·refine Kgr ?_
  refine lxv (.int .i64 (i:Nat)) F (Jc (F.ev rfl)) fun a F=>?_
  refine lxv (.slice (some ⟨gu,0,none⟩) n cap) F (Jc (F.ev rfl)) fun a F=>?_
  refine lxv (.int .i64 (n:Nat)) F (o_lenU (F.ev rfl)) fun a F=>?_
  refine lxv (.bool true) F (Ua (u:=.int .i64 (i:Nat)) (v:=.int .i64 (n:Nat)) (fun ρ hx hy=>by simp only [execOp,hx,hy];simp [go_sem];omega) (F.ev rfl) (F.ev rfl)) fun a F=>?_
  refine Jf ?_
  refine Kgq ?_
  refine wp_cond_true (F.ev rfl) ?_
  have hil:i<xs.length:=by omega
  have hwr:IntKind.i64.wrap ((i:Int)+1)=((i+1:Nat):Int):=by rw [IntKind.wrap_i64];omega
  have htk:xs.take (i+1)=xs.take i++[xs[i]]:=List.take_succ_eq_append_getElem hil
  have hxb:=hx64 _ (List.getElem_mem hil)
  have hcu:w0.cell? ⟨gu,0+i,none⟩=some (.int .u64 (xs[i]:Nat)):=by rw [hat.cell,Nat.zero_add];simp [us,hil]
  generalize xs[i]=x at *
  have hcw:wS.cell? ⟨gu,0+i,none⟩=some (.int .u64 (x:Nat)):=(HM.bel.cell (p:=⟨gu,0+i,none⟩) hat.lt).trans hcu
  refine Kgr ?_
  refine lxv v F (Jc (F.ev rfl)) fun a F=>?_
  refine lxv (.slice (some ⟨gu,0,none⟩) n cap) F (Jc (F.ev rfl)) fun a F=>?_
  refine lxv (.int .i64 (i:Nat)) F (Jc (F.ev rfl)) fun a F=>?_
  refine lxv (.pointer (some ⟨gu,0+i,none⟩)) F (o_idxU hlt (F.ev rfl) (F.ev rfl)) fun a F=>?_
  refine lxv (.int .u64 (x:Nat)) F (o_loadU (F.ev rfl) hcw) fun a F=>?_
  refine lxv (num x) F (o_buildX hxb (F.ev rfl)) fun a F=>?_
  refine Jaq F HM (Ja rfl _) rfl (by rfl) (Wx (F.ev rfl)) fun a w gr F HM=>?_
  obtain ⟨v2,w2,hrun,R,HM2,l2,lk2⟩:=Jgg (ρ:=a.eval) (s:=.tmp 11) (x:=.tmp 17) (A:=[(gr,24,(Xs x))]) HM lv (F.ev rfl) (F.ev rfl) rfl ((Pf.one x).lie (HM.get 0 rfl)) (by simp) (by rw [List.length_take];omega)
  replace HM:=HM2;have lv:=l2
  refine Wz (v:=v2) F (Ja rfl _) rfl (by rfl) hrun fun a F=>?_
  refine lxv v2 F (Jg (F.ev rfl)) fun a F=>?_
  refine Jf ?_
  replace HM:=HM.erase 0 (M2:=(R)) rfl
  refine Kgr ?_
  refine lxv (.int .i64 (i:Nat)) F (Jc (F.ev rfl)) fun a F=>?_
  refine lxv (.int .i64 ((i+1:Nat):Int)) F (Ua (u:=.int .i64 (i:Nat)) (v:=.int .i64 1) (fun ρ hx hy=>by simp only [execOp,hx,hy];simp [go_sem,hwr]) (F.ev rfl) rfl) fun a F=>?_
  refine lxv (.int .i64 ((i+1:Nat):Int)) F (Jg (F.ev rfl)) fun a F=>?_
  refine Jf ?_
  refine Js ?_
  refine ⟨⟨i+1,_,_,by omega,by rw [htk];exact lv,F.sub [4,0,3],HM⟩,?_⟩
  ·show n-(intOf (a.tmps.getD 4 undef)).toNat<n-(intOf (aS.tmps.getD 4 undef)).toNat
   rw [F.get 4 _ rfl,FS.get 4 _ rfl]
   show n-((i+1:Nat):Int).toNat<n-((i:Nat):Int).toNat
   omega
 ·refine Kgr ?_
  refine lxv (.int .i64 (i:Nat)) F (Jc (F.ev rfl)) fun a F=>?_
  refine lxv (.slice (some ⟨gu,0,none⟩) n cap) F (Jc (F.ev rfl)) fun a F=>?_
  refine lxv (.int .i64 (n:Nat)) F (o_lenU (F.ev rfl)) fun a F=>?_
  refine lxv (.bool false) F (Ua (u:=.int .i64 (i:Nat)) (v:=.int .i64 (n:Nat)) (fun ρ hx hy=>by simp only [execOp,hx,hy];simp [go_sem];omega) (F.ev rfl) (F.ev rfl)) fun a F=>?_
  refine Jf ?_
  refine Kgq ?_
  refine wp_cond_false (F.ev rfl) ?_
  refine Kgq ?_
  refine wp_exit ?_
  repeat (first | refine Vu ?_ | refine Vf ?_)
  refine Kgr ?_
  refine lxv v F (Jc (F.ev rfl)) fun a F=>?_
  refine lxv v F (Jg (F.ev rfl)) fun a F=>?_
  refine Jf ?_
  rw [List.take_of_length_le (show xs.length≤i by omega)] at lv
  obtain ⟨a2,cap2,rfl⟩:=lv.form
  refine Kgq ?_
  refine wp_ret ?_
  repeat (first | refine Jv ?_ | refine Jp ?_)
  refine bodyPost_ret (Kt F rfl (s:=2) rfl) F.defers ⟨_,rfl,HM.bel,a2,cap2,by rw [hn],hn ▸ lv.rn HM (fun _ h=>h) (fun x hx=>Nat.lt_trans (hx64 x hx) (by decide)),fun h0=>?_⟩
  rcases lv with ⟨e1,e2⟩ | ⟨g,cap3,cur,e1,_⟩
  ·rw [e2] at hn;simp at hn;omega
  ·cases e1;exact ⟨g,rfl⟩

theorem Jbn (gu n cap:Nat) (xs:List Nat) (w0:World) (hat:At w0 gu 22 (us xs)) (hn:xs.length=n) (hx64:∀ x∈xs,x<18446744073709551616) (hb:n≤1000) (h0:0<n):Calls Try.prog 16 #[.slice (some ⟨gu,0,none⟩) n cap] w0 fun e w'=>∃ g c,e=.returned (.slice (some ⟨g,0,none⟩) n c)∧Below w0.heap.size w0 w'∧qOf n xs g c w':=
 (ofU_any gu n cap xs w0 hat hn hx64 hb).mono fun e w' h => by
  obtain ⟨u,rfl,hb,a2,c2,rfl,hr,hs⟩:=h
  obtain ⟨g,rfl⟩:=hs h0
  exact ⟨g,c2,rfl,hb,hr⟩
theorem Uy {b:Bool} {n:Nat} (h:smallB n=b) (hn:n<18446744073709551616) (w:World):Calls Try.prog 40 #[.int .u64 (n:Nat)] w fun e w'=>e=.returned (.bool b)∧Below w.heap.size w w':=by
 subst h;exact small_any n hn w
theorem Jbb {b:Bool} (P Q G H A:Nat) (h:inB P Q A=b) (hP:P<2^256) (hQ:Q<2^256) (hA:A<2^256) (w:World):Calls Try.prog 41 #[grp P Q G H,num A] w fun e w'=>e=.returned (.bool b)∧Below w.heap.size w w':=by
 subst h;exact gin_any P Q G H A hP hQ hA w
theorem Wt (X k:Nat):wd X k<18446744073709551616:=Nat.mod_lt _ (by decide)
set_option maxRecDepth 100000 in
set_option maxHeartbeats 800000 in
theorem good_a0 (P Q G H:Nat) (hP:P<2^256) (hQ:Q<2^256) (hG:G<2^256) (hH:H<2^256) (w0:World) (hb0:decide ((32:Int)<(Go.bitLen P:Nat))=true):Calls Try.prog 18 #[grp P Q G H] w0 fun e w'=>e=.returned (.bool false)∧Below w0.heap.size w0 w':=by
 refine Kc (args:=[grp P Q G H]) Try.func18 rfl Try.ntmps18 (by rfl) fun a F HM=>?_
 refine Kgr ?_
 refine Jn F HM (Ja rfl _) rfl (by rfl) (Kn (F.ev rfl)) fun a w gg F HM=>?_
 refine lxv (.bool false) F (Jg rfl) fun a F=>?_
 refine Jf ?_
 refine Kgr ?_
 refine lxv (.pointer (some ⟨gg,0,none⟩)) F (Kk (F.ev rfl)) fun a F=>?_
 refine lxv (num P) F (Us (F.ev rfl) (HM.get 0 rfl)) fun a F=>?_
 refine Jr F (Ja rfl _) rfl (by rfl) (Ji Try.func25 (by kernel_rfl) (by rfl) (.cons (F.ev rfl) .nil) _) ((fun w=>Uc P hP w) _) fun a w z F=>?_
 replace HM:=HM.on z
 clear z
 refine lxv (.bool true) F (Uk (m:=(Go.bitLen P:Nat)) hb0 (F.ev rfl) rfl) fun a F=>?_
 refine lxv (.bool true) F (Jc (F.ev rfl)) fun a F=>?_
 refine lxp 7 true F fun a F=>?_
 refine lxp 7 true F fun a F=>?_
 refine lxp 7 true F fun a F=>?_
 refine lxp 7 true F fun a F=>?_
 refine lxv (.bool true) F (Jt (b:=true) (r:=.bool true) (F.ev rfl) rfl (F.ev rfl) rfl) fun a F=>?_
 refine lxv (.bool true) F (Jc (F.ev rfl)) fun a F=>?_
 refine lxp 13 true F fun a F=>?_
 refine lxp 13 true F fun a F=>?_
 refine lxp 13 true F fun a F=>?_
 refine lxp 13 true F fun a F=>?_
 refine lxp 13 true F fun a F=>?_
 refine lxp 13 true F fun a F=>?_
 refine lxp 13 true F fun a F=>?_
 refine lxp 13 true F fun a F=>?_
 refine lxp 13 true F fun a F=>?_
 refine lxv (.bool true) F (Jt (b:=true) (r:=.bool true) (F.ev rfl) rfl (F.ev rfl) rfl) fun a F=>?_
 refine Jf ?_
 refine Kgq ?_
 refine wp_cond_true (F.ev rfl) ?_
 refine Kgr ?_
 refine lxv (.bool false) F (Jg rfl) fun a F=>?_
 refine Jf ?_
 refine Kgq ?_
 refine wp_ret ?_
 repeat (first | refine Jv ?_ | refine Jp ?_)
 exact Kv F HM (Kt F rfl (s:=2) rfl)

set_option maxRecDepth 100000 in
set_option maxHeartbeats 800000 in
theorem good_a1 (P Q G H:Nat) (hP:P<2^256) (hQ:Q<2^256) (hG:G<2^256) (hH:H<2^256) (w0:World) (hb0:decide ((32:Int)<(Go.bitLen P:Nat))=false) (hb1:decide ((31:Int)<(Go.bitLen Q:Nat))=true):Calls Try.prog 18 #[grp P Q G H] w0 fun e w'=>e=.returned (.bool false)∧Below w0.heap.size w0 w':=by
 refine Kc (args:=[grp P Q G H]) Try.func18 rfl Try.ntmps18 (by rfl) fun a F HM=>?_
 refine Kgr ?_
 refine Jn F HM (Ja rfl _) rfl (by rfl) (Kn (F.ev rfl)) fun a w gg F HM=>?_
 refine lxv (.bool false) F (Jg rfl) fun a F=>?_
 refine Jf ?_
 refine Kgr ?_
 refine lxv (.pointer (some ⟨gg,0,none⟩)) F (Kk (F.ev rfl)) fun a F=>?_
 refine lxv (num P) F (Us (F.ev rfl) (HM.get 0 rfl)) fun a F=>?_
 refine Jr F (Ja rfl _) rfl (by rfl) (Ji Try.func25 (by kernel_rfl) (by rfl) (.cons (F.ev rfl) .nil) _) ((fun w=>Uc P hP w) _) fun a w z F=>?_
 replace HM:=HM.on z
 clear z
 refine lxv (.bool false) F (Uk (m:=(Go.bitLen P:Nat)) hb0 (F.ev rfl) rfl) fun a F=>?_
 refine lxv (.bool false) F (Jc (F.ev rfl)) fun a F=>?_
 refine lxw 7 false (.pointer (some ⟨gg,4,none⟩)) F (Kh (F.ev rfl)) fun a F=>?_
 refine lxw 7 false (num Q) F (Va (F.ev rfl) (HM.get 0 rfl)) fun a F=>?_
 refine Jr F (F.want (t:=7) (c:=false) rfl rfl rfl (by rfl) rfl) rfl (by rfl) (Ji Try.func25 (by kernel_rfl) (by rfl) (.cons (F.ev rfl) .nil) _) ((fun w=>Uc Q hQ w) _) fun a w z F=>?_
 replace HM:=HM.on z
 clear z
 refine lxw 7 false (.bool true) F (Uk (m:=(Go.bitLen Q:Nat)) hb1 (F.ev rfl) rfl) fun a F=>?_
 refine lxv (.bool true) F (Jt (b:=false) (r:=.bool true) (F.ev rfl) rfl (F.ev rfl) rfl) fun a F=>?_
 refine lxv (.bool true) F (Jc (F.ev rfl)) fun a F=>?_
 refine lxp 13 true F fun a F=>?_
 refine lxp 13 true F fun a F=>?_
 refine lxp 13 true F fun a F=>?_
 refine lxp 13 true F fun a F=>?_
 refine lxp 13 true F fun a F=>?_
 refine lxp 13 true F fun a F=>?_
 refine lxp 13 true F fun a F=>?_
 refine lxp 13 true F fun a F=>?_
 refine lxp 13 true F fun a F=>?_
 refine lxv (.bool true) F (Jt (b:=true) (r:=.bool true) (F.ev rfl) rfl (F.ev rfl) rfl) fun a F=>?_
 refine Jf ?_
 refine Kgq ?_
 refine wp_cond_true (F.ev rfl) ?_
 refine Kgr ?_
 refine lxv (.bool false) F (Jg rfl) fun a F=>?_
 refine Jf ?_
 refine Kgq ?_
 refine wp_ret ?_
 repeat (first | refine Jv ?_ | refine Jp ?_)
 exact Kv F HM (Kt F rfl (s:=2) rfl)

set_option maxRecDepth 100000 in
set_option maxHeartbeats 800000 in
theorem good_a2 (P Q G H:Nat) (hP:P<2^256) (hQ:Q<2^256) (hG:G<2^256) (hH:H<2^256) (w0:World) (hb0:decide ((32:Int)<(Go.bitLen P:Nat))=false) (hb1:decide ((31:Int)<(Go.bitLen Q:Nat))=false) (hb2:decide (wd P 0≠(2*wd Q 0%18446744073709551616+1)%18446744073709551616)=true):Calls Try.prog 18 #[grp P Q G H] w0 fun e w'=>e=.returned (.bool false)∧Below w0.heap.size w0 w':=by
 refine Kc (args:=[grp P Q G H]) Try.func18 rfl Try.ntmps18 (by rfl) fun a F HM=>?_
 refine Kgr ?_
 refine Jn F HM (Ja rfl _) rfl (by rfl) (Kn (F.ev rfl)) fun a w gg F HM=>?_
 refine lxv (.bool false) F (Jg rfl) fun a F=>?_
 refine Jf ?_
 refine Kgr ?_
 refine lxv (.pointer (some ⟨gg,0,none⟩)) F (Kk (F.ev rfl)) fun a F=>?_
 refine lxv (num P) F (Us (F.ev rfl) (HM.get 0 rfl)) fun a F=>?_
 refine Jr F (Ja rfl _) rfl (by rfl) (Ji Try.func25 (by kernel_rfl) (by rfl) (.cons (F.ev rfl) .nil) _) ((fun w=>Uc P hP w) _) fun a w z F=>?_
 replace HM:=HM.on z
 clear z
 refine lxv (.bool false) F (Uk (m:=(Go.bitLen P:Nat)) hb0 (F.ev rfl) rfl) fun a F=>?_
 refine lxv (.bool false) F (Jc (F.ev rfl)) fun a F=>?_
 refine lxw 7 false (.pointer (some ⟨gg,4,none⟩)) F (Kh (F.ev rfl)) fun a F=>?_
 refine lxw 7 false (num Q) F (Va (F.ev rfl) (HM.get 0 rfl)) fun a F=>?_
 refine Jr F (F.want (t:=7) (c:=false) rfl rfl rfl (by rfl) rfl) rfl (by rfl) (Ji Try.func25 (by kernel_rfl) (by rfl) (.cons (F.ev rfl) .nil) _) ((fun w=>Uc Q hQ w) _) fun a w z F=>?_
 replace HM:=HM.on z
 clear z
 refine lxw 7 false (.bool false) F (Uk (m:=(Go.bitLen Q:Nat)) hb1 (F.ev rfl) rfl) fun a F=>?_
 refine lxv (.bool false) F (Jt (b:=false) (r:=.bool false) (F.ev rfl) rfl (F.ev rfl) rfl) fun a F=>?_
 refine lxv (.bool false) F (Jc (F.ev rfl)) fun a F=>?_
 refine lxw 13 false (.pointer (some ⟨gg,0,none⟩)) F (Kk (F.ev rfl)) fun a F=>?_
 refine lxw 13 false (.pointer (some ⟨gg,0,none⟩)) F (Ky (F.ev rfl) rfl) fun a F=>?_
 refine lxw 13 false (.int .u64 (wd P 0)) F (Kx (F.ev rfl) (HM.get 0 rfl) rfl) fun a F=>?_
 refine lxw 13 false (.pointer (some ⟨gg,4,none⟩)) F (Kh (F.ev rfl)) fun a F=>?_
 refine lxw 13 false (.pointer (some ⟨gg,4,none⟩)) F (Ky (F.ev rfl) rfl) fun a F=>?_
 refine lxw 13 false (.int .u64 (wd Q 0)) F (Kx (F.ev rfl) (HM.get 0 rfl) rfl) fun a F=>?_
 refine lxw 13 false (.int .u64 ((2*wd Q 0%18446744073709551616:Nat):Int)) F (Ww (Wt _ _) rfl rfl (F.ev rfl)) fun a F=>?_
 refine lxw 13 false (.int .u64 (((2*wd Q 0%18446744073709551616+1)%18446744073709551616:Nat):Int)) F (Xw (Nat.mod_lt _ (by decide)) rfl (F.ev rfl) rfl) fun a F=>?_
 refine lxw 13 false (.bool true) F (Jbt hb2 (F.ev rfl) (F.ev rfl)) fun a F=>?_
 refine lxv (.bool true) F (Jt (b:=false) (r:=.bool true) (F.ev rfl) rfl (F.ev rfl) rfl) fun a F=>?_
 refine Jf ?_
 refine Kgq ?_
 refine wp_cond_true (F.ev rfl) ?_
 refine Kgr ?_
 refine lxv (.bool false) F (Jg rfl) fun a F=>?_
 refine Jf ?_
 refine Kgq ?_
 refine wp_ret ?_
 repeat (first | refine Jv ?_ | refine Jp ?_)
 exact Kv F HM (Kt F rfl (s:=2) rfl)

set_option maxRecDepth 100000 in
set_option maxHeartbeats 800000 in
theorem good_b0 (P Q G H:Nat) (hP:P<2^256) (hQ:Q<2^256) (hG:G<2^256) (hH:H<2^256) (w0:World) (hb0:decide ((32:Int)<(Go.bitLen P:Nat))=false) (hb1:decide ((31:Int)<(Go.bitLen Q:Nat))=false) (hb2:decide (wd P 0≠(2*wd Q 0%18446744073709551616+1)%18446744073709551616)=false) (hc0:smallB (wd P 0)=false):Calls Try.prog 18 #[grp P Q G H] w0 fun e w'=>e=.returned (.bool false)∧Below w0.heap.size w0 w':=by
 refine Kc (args:=[grp P Q G H]) Try.func18 rfl Try.ntmps18 (by rfl) fun a F HM=>?_
 refine Kgr ?_
 refine Jn F HM (Ja rfl _) rfl (by rfl) (Kn (F.ev rfl)) fun a w gg F HM=>?_
 refine lxv (.bool false) F (Jg rfl) fun a F=>?_
 refine Jf ?_
 refine Kgr ?_
 refine lxv (.pointer (some ⟨gg,0,none⟩)) F (Kk (F.ev rfl)) fun a F=>?_
 refine lxv (num P) F (Us (F.ev rfl) (HM.get 0 rfl)) fun a F=>?_
 refine Jr F (Ja rfl _) rfl (by rfl) (Ji Try.func25 (by kernel_rfl) (by rfl) (.cons (F.ev rfl) .nil) _) ((fun w=>Uc P hP w) _) fun a w z F=>?_
 replace HM:=HM.on z
 clear z
 refine lxv (.bool false) F (Uk (m:=(Go.bitLen P:Nat)) hb0 (F.ev rfl) rfl) fun a F=>?_
 refine lxv (.bool false) F (Jc (F.ev rfl)) fun a F=>?_
 refine lxw 7 false (.pointer (some ⟨gg,4,none⟩)) F (Kh (F.ev rfl)) fun a F=>?_
 refine lxw 7 false (num Q) F (Va (F.ev rfl) (HM.get 0 rfl)) fun a F=>?_
 refine Jr F (F.want (t:=7) (c:=false) rfl rfl rfl (by rfl) rfl) rfl (by rfl) (Ji Try.func25 (by kernel_rfl) (by rfl) (.cons (F.ev rfl) .nil) _) ((fun w=>Uc Q hQ w) _) fun a w z F=>?_
 replace HM:=HM.on z
 clear z
 refine lxw 7 false (.bool false) F (Uk (m:=(Go.bitLen Q:Nat)) hb1 (F.ev rfl) rfl) fun a F=>?_
 refine lxv (.bool false) F (Jt (b:=false) (r:=.bool false) (F.ev rfl) rfl (F.ev rfl) rfl) fun a F=>?_
 refine lxv (.bool false) F (Jc (F.ev rfl)) fun a F=>?_
 refine lxw 13 false (.pointer (some ⟨gg,0,none⟩)) F (Kk (F.ev rfl)) fun a F=>?_
 refine lxw 13 false (.pointer (some ⟨gg,0,none⟩)) F (Ky (F.ev rfl) rfl) fun a F=>?_
 refine lxw 13 false (.int .u64 (wd P 0)) F (Kx (F.ev rfl) (HM.get 0 rfl) rfl) fun a F=>?_
 refine lxw 13 false (.pointer (some ⟨gg,4,none⟩)) F (Kh (F.ev rfl)) fun a F=>?_
 refine lxw 13 false (.pointer (some ⟨gg,4,none⟩)) F (Ky (F.ev rfl) rfl) fun a F=>?_
 refine lxw 13 false (.int .u64 (wd Q 0)) F (Kx (F.ev rfl) (HM.get 0 rfl) rfl) fun a F=>?_
 refine lxw 13 false (.int .u64 ((2*wd Q 0%18446744073709551616:Nat):Int)) F (Ww (Wt _ _) rfl rfl (F.ev rfl)) fun a F=>?_
 refine lxw 13 false (.int .u64 (((2*wd Q 0%18446744073709551616+1)%18446744073709551616:Nat):Int)) F (Xw (Nat.mod_lt _ (by decide)) rfl (F.ev rfl) rfl) fun a F=>?_
 refine lxw 13 false (.bool false) F (Jbt hb2 (F.ev rfl) (F.ev rfl)) fun a F=>?_
 refine lxv (.bool false) F (Jt (b:=false) (r:=.bool false) (F.ev rfl) rfl (F.ev rfl) rfl) fun a F=>?_
 refine Jf ?_
 refine Kgq ?_
 refine wp_cond_false (F.ev rfl) ?_
 refine Kgq ?_
 refine Ks (S:=fun w'=>Mem _ _ w' [(gg,26,gcs P Q G H)]) HM (fun _ h=>h) (by kernel_rfl) fun w HM HBW=>?_
 clear HBW
 try simp only [List.append_eq,List.cons_append,List.nil_append]
 refine Kw [⟨0,24,[],.val (.pointer (some ⟨gg,0,none⟩)),true⟩,
   ⟨1,25,[0],.val (.pointer (some ⟨gg,0,none⟩)),true⟩,
   ⟨2,26,[1],.val (.int .u64 (wd P 0)),true⟩,
   ⟨3,27,[2],.val (.bool false),false⟩,
   ⟨4,28,[3],.val (.bool false),true⟩,
   ⟨5,29,[4],.val undef,true⟩,
   ⟨6,30,[4,5],.val undef,true⟩,
   ⟨7,31,[4,6],.val undef,true⟩,
   ⟨8,32,[4,7],.val undef,true⟩,
   ⟨9,33,[4,8],.val (.bool false),true⟩,
   ⟨10,34,[9],.val (.bool false),true⟩,
   ⟨11,35,[10],.val undef,true⟩,
   ⟨12,36,[10,11],.val undef,true⟩,
   ⟨13,37,[10,12],.val undef,true⟩,
   ⟨14,38,[10,11,13],.val undef,true⟩,
   ⟨15,39,[10,14],.val (.bool false),true⟩,
   ⟨16,40,[15],.val (.bool false),true⟩,
   ⟨17,41,[16],.val undef,true⟩,
   ⟨18,42,[16,17],.val undef,true⟩,
   ⟨19,43,[16,18],.val undef,true⟩,
   ⟨20,44,[16,17,19],.val undef,true⟩,
   ⟨21,45,[16,20],.val (.bool false),true⟩,
   ⟨22,46,[21],.val (.bool false),true⟩,
   ⟨23,47,[22],.val undef,true⟩,
   ⟨24,48,[22,23],.val undef,true⟩,
   ⟨25,49,[22,24],.val undef,true⟩,
   ⟨26,50,[22,24,25],.val undef,true⟩,
   ⟨27,51,[22,26],.val (.bool false),true⟩,
   ⟨28,52,[27],.val (.bool false),true⟩,
   ⟨29,53,[28],.val undef,true⟩,
   ⟨30,54,[28,29],.val undef,true⟩,
   ⟨31,55,[28,30],.val undef,true⟩,
   ⟨32,56,[28,30,31],.val undef,true⟩,
   ⟨33,57,[28,32],.val (.bool false),true⟩] 1 _ F HM (fun _ h=>h.subl (by first | exact List.Sublist.refl _ | (repeat (first | exact List.Sublist.refl _ | refine List.Sublist.cons_cons _ ?_ | refine List.Sublist.cons _ ?_)))) (by kernel_rfl) (by rfl) ?_ ?_ ?_ ?_ ?_ ?_ ?_
 ·kernel_rfl
 ·exact of_decide_eq_true (by kernel_rfl)
 ·(repeat refine all_cons ⟨_,by rfl,by rfl⟩ ?_);exact Jj
 ·kernel_rfl
 ·(repeat (refine all_cons ?_ ?_;rotate_left));exact Jj
  ·exact Ug _ _ _ _ _ _ _ (by rfl) (by rfl) Jh (fun ρ w kn hs=>Kk (kn _ _ (F.old (by rfl) rfl)))
  ·exact crS (fun ρ w kn hs=>Ky (kn _ _ (kc 0 24)) (kn _ _ (Je _)))
  ·exact crS (fun ρ w kn hs=>Kx (kn _ _ (kc 1 25)) (hs.get 0 rfl) rfl)
  ·exact Jq _ (by rfl)
  ·exact crS (fun ρ w kn hs=>Jc (kn _ _ (kc 3 27)))
  ·exact Jl _ _ _ _ _ _ (by rfl) (by rfl) (wc 4 28 4 (kc 4 28))
  ·exact Jl _ _ _ _ _ _ (by rfl) (by rfl) (wc 4 28 4 (kc 4 28))
  ·exact Jl _ _ _ _ _ _ (by rfl) (by rfl) (wc 4 28 4 (kc 4 28))
  ·exact Jl _ _ _ _ _ _ (by rfl) (by rfl) (wc 4 28 4 (kc 4 28))
  ·exact crS (fun ρ w kn hs=>Jt (b:=false) (r:=.bool false) (kn _ _ (kc 4 28)) (kn _ _ (kc 8 32)) (kn _ _ (Je _)) rfl)
  ·exact crS (fun ρ w kn hs=>Jc (kn _ _ (kc 9 33)))
  ·exact Jl _ _ _ _ _ _ (by rfl) (by rfl) (wc 10 34 10 (kc 10 34))
  ·exact Jl _ _ _ _ _ _ (by rfl) (by rfl) (wc 10 34 10 (kc 10 34))
  ·exact Jl _ _ _ _ _ _ (by rfl) (by rfl) (wc 10 34 10 (kc 10 34))
  ·exact Jl _ _ _ _ _ _ (by rfl) (by rfl) (wc 10 34 10 (kc 10 34))
  ·exact crS (fun ρ w kn hs=>Jt (b:=false) (r:=.bool false) (kn _ _ (kc 10 34)) (kn _ _ (kc 14 38)) (kn _ _ (Je _)) rfl)
  ·exact crS (fun ρ w kn hs=>Jc (kn _ _ (kc 15 39)))
  ·exact Jl _ _ _ _ _ _ (by rfl) (by rfl) (wc 16 40 16 (kc 16 40))
  ·exact Jl _ _ _ _ _ _ (by rfl) (by rfl) (wc 16 40 16 (kc 16 40))
  ·exact Jl _ _ _ _ _ _ (by rfl) (by rfl) (wc 16 40 16 (kc 16 40))
  ·exact Jl _ _ _ _ _ _ (by rfl) (by rfl) (wc 16 40 16 (kc 16 40))
  ·exact crS (fun ρ w kn hs=>Jt (b:=false) (r:=.bool false) (kn _ _ (kc 16 40)) (kn _ _ (kc 20 44)) (kn _ _ (Je _)) rfl)
  ·exact crS (fun ρ w kn hs=>Jc (kn _ _ (kc 21 45)))
  ·exact Jl _ _ _ _ _ _ (by rfl) (by rfl) (wc 22 46 22 (kc 22 46))
  ·exact Jl _ _ _ _ _ _ (by rfl) (by rfl) (wc 22 46 22 (kc 22 46))
  ·exact Jl _ _ _ _ _ _ (by rfl) (by rfl) (wc 22 46 22 (kc 22 46))
  ·exact Jl _ _ _ _ _ _ (by rfl) (by rfl) (wc 22 46 22 (kc 22 46))
  ·exact crS (fun ρ w kn hs=>Jt (b:=false) (r:=.bool false) (kn _ _ (kc 22 46)) (kn _ _ (kc 26 50)) (kn _ _ (Je _)) rfl)
  ·exact crS (fun ρ w kn hs=>Jc (kn _ _ (kc 27 51)))
  ·exact Jl _ _ _ _ _ _ (by rfl) (by rfl) (wc 28 52 28 (kc 28 52))
  ·exact Jl _ _ _ _ _ _ (by rfl) (by rfl) (wc 28 52 28 (kc 28 52))
  ·exact Jl _ _ _ _ _ _ (by rfl) (by rfl) (wc 28 52 28 (kc 28 52))
  ·exact Jl _ _ _ _ _ _ (by rfl) (by rfl) (wc 28 52 28 (kc 28 52))
  ·exact crS (fun ρ w kn hs=>Jt (b:=false) (r:=.bool false) (kn _ _ (kc 28 52)) (kn _ _ (kc 32 56)) (kn _ _ (Je _)) rfl)
 ·(repeat (refine all_cons ?_ ?_;rotate_left));exact Jj
  all_goals try exact sA
  ·exact fun _=>Jm _ 40 _ _ [.tmp 26] _ _ _ _ _ _ _ (by rfl) Try.func40 (by kernel_rfl) (by rfl) (by rfl) (Jh) (.cons (kc 2 26) .nil) ((fun w=>Uy hc0 (Wt _ _) w))
 intro gs rs a w hgs hrs F HM HBW HR HO HT
 obtain rfl:=nl0 rs hrs
 obtain rfl:=nl0 gs hgs
 clear hrs hgs HR HBW HO
 clear HT
 refine Kq (i:=34) (d:=2) (x:=.tmp 57) (v:=.bool false) F ((HM.subl (by first | exact List.Sublist.refl _ | (repeat (first | exact List.Sublist.refl _ | refine List.Sublist.cons_cons _ ?_ | refine List.Sublist.cons _ ?_))))) (by kernel_rfl) (by rfl) (by rfl) (F.ev rfl) fun a F=>?_
 refine Ui (by kernel_rfl) ?_ _
 refine Kgq ?_
 refine wp_ret ?_
 repeat (first | refine Jv ?_ | refine Jp ?_)
 exact Kv F HM (Kt F rfl (s:=2) rfl)

set_option maxRecDepth 100000 in
set_option maxHeartbeats 800000 in
theorem good_b1 (P Q G H:Nat) (hP:P<2^256) (hQ:Q<2^256) (hG:G<2^256) (hH:H<2^256) (w0:World) (hb0:decide ((32:Int)<(Go.bitLen P:Nat))=false) (hb1:decide ((31:Int)<(Go.bitLen Q:Nat))=false) (hb2:decide (wd P 0≠(2*wd Q 0%18446744073709551616+1)%18446744073709551616)=false) (hc0:smallB (wd P 0)=true) (hc1:smallB (wd Q 0)=false):Calls Try.prog 18 #[grp P Q G H] w0 fun e w'=>e=.returned (.bool false)∧Below w0.heap.size w0 w':=by
 refine Kc (args:=[grp P Q G H]) Try.func18 rfl Try.ntmps18 (by rfl) fun a F HM=>?_
 refine Kgr ?_
 refine Jn F HM (Ja rfl _) rfl (by rfl) (Kn (F.ev rfl)) fun a w gg F HM=>?_
 refine lxv (.bool false) F (Jg rfl) fun a F=>?_
 refine Jf ?_
 refine Kgr ?_
 refine lxv (.pointer (some ⟨gg,0,none⟩)) F (Kk (F.ev rfl)) fun a F=>?_
 refine lxv (num P) F (Us (F.ev rfl) (HM.get 0 rfl)) fun a F=>?_
 refine Jr F (Ja rfl _) rfl (by rfl) (Ji Try.func25 (by kernel_rfl) (by rfl) (.cons (F.ev rfl) .nil) _) ((fun w=>Uc P hP w) _) fun a w z F=>?_
 replace HM:=HM.on z
 clear z
 refine lxv (.bool false) F (Uk (m:=(Go.bitLen P:Nat)) hb0 (F.ev rfl) rfl) fun a F=>?_
 refine lxv (.bool false) F (Jc (F.ev rfl)) fun a F=>?_
 refine lxw 7 false (.pointer (some ⟨gg,4,none⟩)) F (Kh (F.ev rfl)) fun a F=>?_
 refine lxw 7 false (num Q) F (Va (F.ev rfl) (HM.get 0 rfl)) fun a F=>?_
 refine Jr F (F.want (t:=7) (c:=false) rfl rfl rfl (by rfl) rfl) rfl (by rfl) (Ji Try.func25 (by kernel_rfl) (by rfl) (.cons (F.ev rfl) .nil) _) ((fun w=>Uc Q hQ w) _) fun a w z F=>?_
 replace HM:=HM.on z
 clear z
 refine lxw 7 false (.bool false) F (Uk (m:=(Go.bitLen Q:Nat)) hb1 (F.ev rfl) rfl) fun a F=>?_
 refine lxv (.bool false) F (Jt (b:=false) (r:=.bool false) (F.ev rfl) rfl (F.ev rfl) rfl) fun a F=>?_
 refine lxv (.bool false) F (Jc (F.ev rfl)) fun a F=>?_
 refine lxw 13 false (.pointer (some ⟨gg,0,none⟩)) F (Kk (F.ev rfl)) fun a F=>?_
 refine lxw 13 false (.pointer (some ⟨gg,0,none⟩)) F (Ky (F.ev rfl) rfl) fun a F=>?_
 refine lxw 13 false (.int .u64 (wd P 0)) F (Kx (F.ev rfl) (HM.get 0 rfl) rfl) fun a F=>?_
 refine lxw 13 false (.pointer (some ⟨gg,4,none⟩)) F (Kh (F.ev rfl)) fun a F=>?_
 refine lxw 13 false (.pointer (some ⟨gg,4,none⟩)) F (Ky (F.ev rfl) rfl) fun a F=>?_
 refine lxw 13 false (.int .u64 (wd Q 0)) F (Kx (F.ev rfl) (HM.get 0 rfl) rfl) fun a F=>?_
 refine lxw 13 false (.int .u64 ((2*wd Q 0%18446744073709551616:Nat):Int)) F (Ww (Wt _ _) rfl rfl (F.ev rfl)) fun a F=>?_
 refine lxw 13 false (.int .u64 (((2*wd Q 0%18446744073709551616+1)%18446744073709551616:Nat):Int)) F (Xw (Nat.mod_lt _ (by decide)) rfl (F.ev rfl) rfl) fun a F=>?_
 refine lxw 13 false (.bool false) F (Jbt hb2 (F.ev rfl) (F.ev rfl)) fun a F=>?_
 refine lxv (.bool false) F (Jt (b:=false) (r:=.bool false) (F.ev rfl) rfl (F.ev rfl) rfl) fun a F=>?_
 refine Jf ?_
 refine Kgq ?_
 refine wp_cond_false (F.ev rfl) ?_
 refine Kgq ?_
 refine Ks (S:=fun w'=>Mem _ _ w' [(gg,26,gcs P Q G H)]) HM (fun _ h=>h) (by kernel_rfl) fun w HM HBW=>?_
 clear HBW
 try simp only [List.append_eq,List.cons_append,List.nil_append]
 refine Kw [⟨0,24,[],.val (.pointer (some ⟨gg,0,none⟩)),true⟩,
   ⟨1,25,[0],.val (.pointer (some ⟨gg,0,none⟩)),true⟩,
   ⟨2,26,[1],.val (.int .u64 (wd P 0)),true⟩,
   ⟨3,27,[2],.val (.bool true),false⟩,
   ⟨4,28,[3],.val (.bool true),true⟩,
   ⟨5,29,[4],.val (.pointer (some ⟨gg,4,none⟩)),true⟩,
   ⟨6,30,[4,5],.val (.pointer (some ⟨gg,4,none⟩)),true⟩,
   ⟨7,31,[4,6],.val (.int .u64 (wd Q 0)),true⟩,
   ⟨8,32,[4,7],.val (.bool false),false⟩,
   ⟨9,33,[4,8],.val (.bool false),true⟩,
   ⟨10,34,[9],.val (.bool false),true⟩,
   ⟨11,35,[10],.val undef,true⟩,
   ⟨12,36,[10,11],.val undef,true⟩,
   ⟨13,37,[10,12],.val undef,true⟩,
   ⟨14,38,[10,11,13],.val undef,true⟩,
   ⟨15,39,[10,14],.val (.bool false),true⟩,
   ⟨16,40,[15],.val (.bool false),true⟩,
   ⟨17,41,[16],.val undef,true⟩,
   ⟨18,42,[16,17],.val undef,true⟩,
   ⟨19,43,[16,18],.val undef,true⟩,
   ⟨20,44,[16,17,19],.val undef,true⟩,
   ⟨21,45,[16,20],.val (.bool false),true⟩,
   ⟨22,46,[21],.val (.bool false),true⟩,
   ⟨23,47,[22],.val undef,true⟩,
   ⟨24,48,[22,23],.val undef,true⟩,
   ⟨25,49,[22,24],.val undef,true⟩,
   ⟨26,50,[22,24,25],.val undef,true⟩,
   ⟨27,51,[22,26],.val (.bool false),true⟩,
   ⟨28,52,[27],.val (.bool false),true⟩,
   ⟨29,53,[28],.val undef,true⟩,
   ⟨30,54,[28,29],.val undef,true⟩,
   ⟨31,55,[28,30],.val undef,true⟩,
   ⟨32,56,[28,30,31],.val undef,true⟩,
   ⟨33,57,[28,32],.val (.bool false),true⟩] 1 _ F HM (fun _ h=>h.subl (by first | exact List.Sublist.refl _ | (repeat (first | exact List.Sublist.refl _ | refine List.Sublist.cons_cons _ ?_ | refine List.Sublist.cons _ ?_)))) (by kernel_rfl) (by rfl) ?_ ?_ ?_ ?_ ?_ ?_ ?_
 ·kernel_rfl
 ·exact of_decide_eq_true (by kernel_rfl)
 ·(repeat refine all_cons ⟨_,by rfl,by rfl⟩ ?_);exact Jj
 ·kernel_rfl
 ·(repeat (refine all_cons ?_ ?_;rotate_left));exact Jj
  ·exact Ug _ _ _ _ _ _ _ (by rfl) (by rfl) Jh (fun ρ w kn hs=>Kk (kn _ _ (F.old (by rfl) rfl)))
  ·exact crS (fun ρ w kn hs=>Ky (kn _ _ (kc 0 24)) (kn _ _ (Je _)))
  ·exact crS (fun ρ w kn hs=>Kx (kn _ _ (kc 1 25)) (hs.get 0 rfl) rfl)
  ·exact Jq _ (by rfl)
  ·exact crS (fun ρ w kn hs=>Jc (kn _ _ (kc 3 27)))
  ·exact Ug _ _ _ _ _ _ _ (by rfl) (by rfl) (wc 4 28 4 (kc 4 28)) (fun ρ w kn hs=>Kh (kn _ _ (F.old (by rfl) rfl)))
  ·exact Ug _ _ _ _ _ _ _ (by rfl) (by rfl) (wc 4 28 4 (kc 4 28)) (fun ρ w kn hs=>Ky (kn _ _ (kc 5 29)) (kn _ _ (Je _)))
  ·exact Ug _ _ _ _ _ _ _ (by rfl) (by rfl) (wc 4 28 4 (kc 4 28)) (fun ρ w kn hs=>Kx (kn _ _ (kc 6 30)) (hs.get 0 rfl) rfl)
  ·exact Jq _ (by rfl)
  ·exact crS (fun ρ w kn hs=>Jt (b:=true) (r:=.bool false) (kn _ _ (kc 4 28)) (kn _ _ (kc 8 32)) (kn _ _ (Je _)) rfl)
  ·exact crS (fun ρ w kn hs=>Jc (kn _ _ (kc 9 33)))
  ·exact Jl _ _ _ _ _ _ (by rfl) (by rfl) (wc 10 34 10 (kc 10 34))
  ·exact Jl _ _ _ _ _ _ (by rfl) (by rfl) (wc 10 34 10 (kc 10 34))
  ·exact Jl _ _ _ _ _ _ (by rfl) (by rfl) (wc 10 34 10 (kc 10 34))
  ·exact Jl _ _ _ _ _ _ (by rfl) (by rfl) (wc 10 34 10 (kc 10 34))
  ·exact crS (fun ρ w kn hs=>Jt (b:=false) (r:=.bool false) (kn _ _ (kc 10 34)) (kn _ _ (kc 14 38)) (kn _ _ (Je _)) rfl)
  ·exact crS (fun ρ w kn hs=>Jc (kn _ _ (kc 15 39)))
  ·exact Jl _ _ _ _ _ _ (by rfl) (by rfl) (wc 16 40 16 (kc 16 40))
  ·exact Jl _ _ _ _ _ _ (by rfl) (by rfl) (wc 16 40 16 (kc 16 40))
  ·exact Jl _ _ _ _ _ _ (by rfl) (by rfl) (wc 16 40 16 (kc 16 40))
  ·exact Jl _ _ _ _ _ _ (by rfl) (by rfl) (wc 16 40 16 (kc 16 40))
  ·exact crS (fun ρ w kn hs=>Jt (b:=false) (r:=.bool false) (kn _ _ (kc 16 40)) (kn _ _ (kc 20 44)) (kn _ _ (Je _)) rfl)
  ·exact crS (fun ρ w kn hs=>Jc (kn _ _ (kc 21 45)))
  ·exact Jl _ _ _ _ _ _ (by rfl) (by rfl) (wc 22 46 22 (kc 22 46))
  ·exact Jl _ _ _ _ _ _ (by rfl) (by rfl) (wc 22 46 22 (kc 22 46))
  ·exact Jl _ _ _ _ _ _ (by rfl) (by rfl) (wc 22 46 22 (kc 22 46))
  ·exact Jl _ _ _ _ _ _ (by rfl) (by rfl) (wc 22 46 22 (kc 22 46))
  ·exact crS (fun ρ w kn hs=>Jt (b:=false) (r:=.bool false) (kn _ _ (kc 22 46)) (kn _ _ (kc 26 50)) (kn _ _ (Je _)) rfl)
  ·exact crS (fun ρ w kn hs=>Jc (kn _ _ (kc 27 51)))
  ·exact Jl _ _ _ _ _ _ (by rfl) (by rfl) (wc 28 52 28 (kc 28 52))
  ·exact Jl _ _ _ _ _ _ (by rfl) (by rfl) (wc 28 52 28 (kc 28 52))
  ·exact Jl _ _ _ _ _ _ (by rfl) (by rfl) (wc 28 52 28 (kc 28 52))
  ·exact Jl _ _ _ _ _ _ (by rfl) (by rfl) (wc 28 52 28 (kc 28 52))
  ·exact crS (fun ρ w kn hs=>Jt (b:=false) (r:=.bool false) (kn _ _ (kc 28 52)) (kn _ _ (kc 32 56)) (kn _ _ (Je _)) rfl)
 ·(repeat (refine all_cons ?_ ?_;rotate_left));exact Jj
  all_goals try exact sA
  ·exact fun _=>Jm _ 40 _ _ [.tmp 26] _ _ _ _ _ _ _ (by rfl) Try.func40 (by kernel_rfl) (by rfl) (by rfl) (Jh) (.cons (kc 2 26) .nil) ((fun w=>Uy hc0 (Wt _ _) w))
  ·exact fun _=>Jm _ 40 _ _ [.tmp 31] _ _ _ _ _ _ _ (by rfl) Try.func40 (by kernel_rfl) (by rfl) (by rfl) (wc 4 28 4 (kc 4 28)) (.cons (kc 7 31) .nil) ((fun w=>Uy hc1 (Wt _ _) w))
 intro gs rs a w hgs hrs F HM HBW HR HO HT
 obtain rfl:=nl0 rs hrs
 obtain rfl:=nl0 gs hgs
 clear hrs hgs HR HBW HO
 clear HT
 refine Kq (i:=34) (d:=2) (x:=.tmp 57) (v:=.bool false) F ((HM.subl (by first | exact List.Sublist.refl _ | (repeat (first | exact List.Sublist.refl _ | refine List.Sublist.cons_cons _ ?_ | refine List.Sublist.cons _ ?_))))) (by kernel_rfl) (by rfl) (by rfl) (F.ev rfl) fun a F=>?_
 refine Ui (by kernel_rfl) ?_ _
 refine Kgq ?_
 refine wp_ret ?_
 repeat (first | refine Jv ?_ | refine Jp ?_)
 exact Kv F HM (Kt F rfl (s:=2) rfl)

set_option maxRecDepth 100000 in
set_option maxHeartbeats 800000 in
theorem good_b2 (P Q G H:Nat) (hP:P<2^256) (hQ:Q<2^256) (hG:G<2^256) (hH:H<2^256) (w0:World) (hb0:decide ((32:Int)<(Go.bitLen P:Nat))=false) (hb1:decide ((31:Int)<(Go.bitLen Q:Nat))=false) (hb2:decide (wd P 0≠(2*wd Q 0%18446744073709551616+1)%18446744073709551616)=false) (hc0:smallB (wd P 0)=true) (hc1:smallB (wd Q 0)=true) (hc2:inB P Q G=false):Calls Try.prog 18 #[grp P Q G H] w0 fun e w'=>e=.returned (.bool false)∧Below w0.heap.size w0 w':=by
 refine Kc (args:=[grp P Q G H]) Try.func18 rfl Try.ntmps18 (by rfl) fun a F HM=>?_
 refine Kgr ?_
 refine Jn F HM (Ja rfl _) rfl (by rfl) (Kn (F.ev rfl)) fun a w gg F HM=>?_
 refine lxv (.bool false) F (Jg rfl) fun a F=>?_
 refine Jf ?_
 refine Kgr ?_
 refine lxv (.pointer (some ⟨gg,0,none⟩)) F (Kk (F.ev rfl)) fun a F=>?_
 refine lxv (num P) F (Us (F.ev rfl) (HM.get 0 rfl)) fun a F=>?_
 refine Jr F (Ja rfl _) rfl (by rfl) (Ji Try.func25 (by kernel_rfl) (by rfl) (.cons (F.ev rfl) .nil) _) ((fun w=>Uc P hP w) _) fun a w z F=>?_
 replace HM:=HM.on z
 clear z
 refine lxv (.bool false) F (Uk (m:=(Go.bitLen P:Nat)) hb0 (F.ev rfl) rfl) fun a F=>?_
 refine lxv (.bool false) F (Jc (F.ev rfl)) fun a F=>?_
 refine lxw 7 false (.pointer (some ⟨gg,4,none⟩)) F (Kh (F.ev rfl)) fun a F=>?_
 refine lxw 7 false (num Q) F (Va (F.ev rfl) (HM.get 0 rfl)) fun a F=>?_
 refine Jr F (F.want (t:=7) (c:=false) rfl rfl rfl (by rfl) rfl) rfl (by rfl) (Ji Try.func25 (by kernel_rfl) (by rfl) (.cons (F.ev rfl) .nil) _) ((fun w=>Uc Q hQ w) _) fun a w z F=>?_
 replace HM:=HM.on z
 clear z
 refine lxw 7 false (.bool false) F (Uk (m:=(Go.bitLen Q:Nat)) hb1 (F.ev rfl) rfl) fun a F=>?_
 refine lxv (.bool false) F (Jt (b:=false) (r:=.bool false) (F.ev rfl) rfl (F.ev rfl) rfl) fun a F=>?_
 refine lxv (.bool false) F (Jc (F.ev rfl)) fun a F=>?_
 refine lxw 13 false (.pointer (some ⟨gg,0,none⟩)) F (Kk (F.ev rfl)) fun a F=>?_
 refine lxw 13 false (.pointer (some ⟨gg,0,none⟩)) F (Ky (F.ev rfl) rfl) fun a F=>?_
 refine lxw 13 false (.int .u64 (wd P 0)) F (Kx (F.ev rfl) (HM.get 0 rfl) rfl) fun a F=>?_
 refine lxw 13 false (.pointer (some ⟨gg,4,none⟩)) F (Kh (F.ev rfl)) fun a F=>?_
 refine lxw 13 false (.pointer (some ⟨gg,4,none⟩)) F (Ky (F.ev rfl) rfl) fun a F=>?_
 refine lxw 13 false (.int .u64 (wd Q 0)) F (Kx (F.ev rfl) (HM.get 0 rfl) rfl) fun a F=>?_
 refine lxw 13 false (.int .u64 ((2*wd Q 0%18446744073709551616:Nat):Int)) F (Ww (Wt _ _) rfl rfl (F.ev rfl)) fun a F=>?_
 refine lxw 13 false (.int .u64 (((2*wd Q 0%18446744073709551616+1)%18446744073709551616:Nat):Int)) F (Xw (Nat.mod_lt _ (by decide)) rfl (F.ev rfl) rfl) fun a F=>?_
 refine lxw 13 false (.bool false) F (Jbt hb2 (F.ev rfl) (F.ev rfl)) fun a F=>?_
 refine lxv (.bool false) F (Jt (b:=false) (r:=.bool false) (F.ev rfl) rfl (F.ev rfl) rfl) fun a F=>?_
 refine Jf ?_
 refine Kgq ?_
 refine wp_cond_false (F.ev rfl) ?_
 refine Kgq ?_
 refine Ks (S:=fun w'=>Mem _ _ w' [(gg,26,gcs P Q G H)]) HM (fun _ h=>h) (by kernel_rfl) fun w HM HBW=>?_
 clear HBW
 try simp only [List.append_eq,List.cons_append,List.nil_append]
 refine Kw [⟨0,24,[],.val (.pointer (some ⟨gg,0,none⟩)),true⟩,
   ⟨1,25,[0],.val (.pointer (some ⟨gg,0,none⟩)),true⟩,
   ⟨2,26,[1],.val (.int .u64 (wd P 0)),true⟩,
   ⟨3,27,[2],.val (.bool true),false⟩,
   ⟨4,28,[3],.val (.bool true),true⟩,
   ⟨5,29,[4],.val (.pointer (some ⟨gg,4,none⟩)),true⟩,
   ⟨6,30,[4,5],.val (.pointer (some ⟨gg,4,none⟩)),true⟩,
   ⟨7,31,[4,6],.val (.int .u64 (wd Q 0)),true⟩,
   ⟨8,32,[4,7],.val (.bool true),false⟩,
   ⟨9,33,[4,8],.val (.bool true),true⟩,
   ⟨10,34,[9],.val (.bool true),true⟩,
   ⟨11,35,[10],.val (grp P Q G H),true⟩,
   ⟨12,36,[10,11],.val (.pointer (some ⟨gg,8,none⟩)),true⟩,
   ⟨13,37,[10,12],.val (num G),true⟩,
   ⟨14,38,[10,11,13],.val (.bool false),false⟩,
   ⟨15,39,[10,14],.val (.bool false),true⟩,
   ⟨16,40,[15],.val (.bool false),true⟩,
   ⟨17,41,[16],.val undef,true⟩,
   ⟨18,42,[16,17],.val undef,true⟩,
   ⟨19,43,[16,18],.val undef,true⟩,
   ⟨20,44,[16,17,19],.val undef,true⟩,
   ⟨21,45,[16,20],.val (.bool false),true⟩,
   ⟨22,46,[21],.val (.bool false),true⟩,
   ⟨23,47,[22],.val undef,true⟩,
   ⟨24,48,[22,23],.val undef,true⟩,
   ⟨25,49,[22,24],.val undef,true⟩,
   ⟨26,50,[22,24,25],.val undef,true⟩,
   ⟨27,51,[22,26],.val (.bool false),true⟩,
   ⟨28,52,[27],.val (.bool false),true⟩,
   ⟨29,53,[28],.val undef,true⟩,
   ⟨30,54,[28,29],.val undef,true⟩,
   ⟨31,55,[28,30],.val undef,true⟩,
   ⟨32,56,[28,30,31],.val undef,true⟩,
   ⟨33,57,[28,32],.val (.bool false),true⟩] 1 _ F HM (fun _ h=>h.subl (by first | exact List.Sublist.refl _ | (repeat (first | exact List.Sublist.refl _ | refine List.Sublist.cons_cons _ ?_ | refine List.Sublist.cons _ ?_)))) (by kernel_rfl) (by rfl) ?_ ?_ ?_ ?_ ?_ ?_ ?_
 ·kernel_rfl
 ·exact of_decide_eq_true (by kernel_rfl)
 ·(repeat refine all_cons ⟨_,by rfl,by rfl⟩ ?_);exact Jj
 ·kernel_rfl
 ·(repeat (refine all_cons ?_ ?_;rotate_left));exact Jj
  all_goals try exact Jq _ (by rfl)
  ·exact Ug _ _ _ _ _ _ _ (by rfl) (by rfl) Jh (fun ρ w kn hs=>Kk (kn _ _ (F.old (by rfl) rfl)))
  ·exact crS (fun ρ w kn hs=>Ky (kn _ _ (kc 0 24)) (kn _ _ (Je _)))
  ·exact crS (fun ρ w kn hs=>Kx (kn _ _ (kc 1 25)) (hs.get 0 rfl) rfl)
  ·exact crS (fun ρ w kn hs=>Jc (kn _ _ (kc 3 27)))
  ·exact Ug _ _ _ _ _ _ _ (by rfl) (by rfl) (wc 4 28 4 (kc 4 28)) (fun ρ w kn hs=>Kh (kn _ _ (F.old (by rfl) rfl)))
  ·exact Ug _ _ _ _ _ _ _ (by rfl) (by rfl) (wc 4 28 4 (kc 4 28)) (fun ρ w kn hs=>Ky (kn _ _ (kc 5 29)) (kn _ _ (Je _)))
  ·exact Ug _ _ _ _ _ _ _ (by rfl) (by rfl) (wc 4 28 4 (kc 4 28)) (fun ρ w kn hs=>Kx (kn _ _ (kc 6 30)) (hs.get 0 rfl) rfl)
  ·exact crS (fun ρ w kn hs=>Jt (b:=true) (r:=.bool true) (kn _ _ (kc 4 28)) (kn _ _ (kc 8 32)) (kn _ _ (Je _)) rfl)
  ·exact crS (fun ρ w kn hs=>Jc (kn _ _ (kc 9 33)))
  ·exact Ug _ _ _ _ _ _ _ (by rfl) (by rfl) (wc 10 34 10 (kc 10 34)) (fun ρ w kn hs=>Jy (kn _ _ (F.old (by rfl) rfl)) (hs.get 0 rfl))
  ·exact Ug _ _ _ _ _ _ _ (by rfl) (by rfl) (wc 10 34 10 (kc 10 34)) (fun ρ w kn hs=>Vq (kn _ _ (F.old (by rfl) rfl)))
  ·exact Ug _ _ _ _ _ _ _ (by rfl) (by rfl) (wc 10 34 10 (kc 10 34)) (fun ρ w kn hs=>We (kn _ _ (kc 12 36)) (hs.get 0 rfl))
  ·exact crS (fun ρ w kn hs=>Jt (b:=true) (r:=.bool false) (kn _ _ (kc 10 34)) (kn _ _ (kc 14 38)) (kn _ _ (Je _)) rfl)
  ·exact crS (fun ρ w kn hs=>Jc (kn _ _ (kc 15 39)))
  ·exact Jl _ _ _ _ _ _ (by rfl) (by rfl) (wc 16 40 16 (kc 16 40))
  ·exact Jl _ _ _ _ _ _ (by rfl) (by rfl) (wc 16 40 16 (kc 16 40))
  ·exact Jl _ _ _ _ _ _ (by rfl) (by rfl) (wc 16 40 16 (kc 16 40))
  ·exact Jl _ _ _ _ _ _ (by rfl) (by rfl) (wc 16 40 16 (kc 16 40))
  ·exact crS (fun ρ w kn hs=>Jt (b:=false) (r:=.bool false) (kn _ _ (kc 16 40)) (kn _ _ (kc 20 44)) (kn _ _ (Je _)) rfl)
  ·exact crS (fun ρ w kn hs=>Jc (kn _ _ (kc 21 45)))
  ·exact Jl _ _ _ _ _ _ (by rfl) (by rfl) (wc 22 46 22 (kc 22 46))
  ·exact Jl _ _ _ _ _ _ (by rfl) (by rfl) (wc 22 46 22 (kc 22 46))
  ·exact Jl _ _ _ _ _ _ (by rfl) (by rfl) (wc 22 46 22 (kc 22 46))
  ·exact Jl _ _ _ _ _ _ (by rfl) (by rfl) (wc 22 46 22 (kc 22 46))
  ·exact crS (fun ρ w kn hs=>Jt (b:=false) (r:=.bool false) (kn _ _ (kc 22 46)) (kn _ _ (kc 26 50)) (kn _ _ (Je _)) rfl)
  ·exact crS (fun ρ w kn hs=>Jc (kn _ _ (kc 27 51)))
  ·exact Jl _ _ _ _ _ _ (by rfl) (by rfl) (wc 28 52 28 (kc 28 52))
  ·exact Jl _ _ _ _ _ _ (by rfl) (by rfl) (wc 28 52 28 (kc 28 52))
  ·exact Jl _ _ _ _ _ _ (by rfl) (by rfl) (wc 28 52 28 (kc 28 52))
  ·exact Jl _ _ _ _ _ _ (by rfl) (by rfl) (wc 28 52 28 (kc 28 52))
  ·exact crS (fun ρ w kn hs=>Jt (b:=false) (r:=.bool false) (kn _ _ (kc 28 52)) (kn _ _ (kc 32 56)) (kn _ _ (Je _)) rfl)
 ·(repeat (refine all_cons ?_ ?_;rotate_left));exact Jj
  all_goals try exact sA
  ·exact fun _=>Jm _ 40 _ _ [.tmp 26] _ _ _ _ _ _ _ (by rfl) Try.func40 (by kernel_rfl) (by rfl) (by rfl) (Jh) (.cons (kc 2 26) .nil) ((fun w=>Uy hc0 (Wt _ _) w))
  ·exact fun _=>Jm _ 40 _ _ [.tmp 31] _ _ _ _ _ _ _ (by rfl) Try.func40 (by kernel_rfl) (by rfl) (by rfl) (wc 4 28 4 (kc 4 28)) (.cons (kc 7 31) .nil) ((fun w=>Uy hc1 (Wt _ _) w))
  ·exact fun _=>Jm _ 41 _ _ [.tmp 35,.tmp 37] _ _ _ _ _ _ _ (by rfl) Try.func41 (by kernel_rfl) (by rfl) (by rfl) (wc 10 34 10 (kc 10 34)) (.cons (kc 11 35) (.cons (kc 13 37) .nil)) ((fun w=>Jbb P Q G H G hc2 hP hQ hG w))
 intro gs rs a w hgs hrs F HM HBW HR HO HT
 obtain rfl:=nl0 rs hrs
 obtain rfl:=nl0 gs hgs
 clear hrs hgs HR HBW HO
 clear HT
 refine Kq (i:=34) (d:=2) (x:=.tmp 57) (v:=.bool false) F ((HM.subl (by first | exact List.Sublist.refl _ | (repeat (first | exact List.Sublist.refl _ | refine List.Sublist.cons_cons _ ?_ | refine List.Sublist.cons _ ?_))))) (by kernel_rfl) (by rfl) (by rfl) (F.ev rfl) fun a F=>?_
 refine Ui (by kernel_rfl) ?_ _
 refine Kgq ?_
 refine wp_ret ?_
 repeat (first | refine Jv ?_ | refine Jp ?_)
 exact Kv F HM (Kt F rfl (s:=2) rfl)

set_option maxRecDepth 100000 in
set_option maxHeartbeats 800000 in
theorem good_b3 (P Q G H:Nat) (hP:P<2^256) (hQ:Q<2^256) (hG:G<2^256) (hH:H<2^256) (w0:World) (hb0:decide ((32:Int)<(Go.bitLen P:Nat))=false) (hb1:decide ((31:Int)<(Go.bitLen Q:Nat))=false) (hb2:decide (wd P 0≠(2*wd Q 0%18446744073709551616+1)%18446744073709551616)=false) (hc0:smallB (wd P 0)=true) (hc1:smallB (wd Q 0)=true) (hc2:inB P Q G=true) (hc3:inB P Q H=false):Calls Try.prog 18 #[grp P Q G H] w0 fun e w'=>e=.returned (.bool false)∧Below w0.heap.size w0 w':=by
 refine Kc (args:=[grp P Q G H]) Try.func18 rfl Try.ntmps18 (by rfl) fun a F HM=>?_
 refine Kgr ?_
 refine Jn F HM (Ja rfl _) rfl (by rfl) (Kn (F.ev rfl)) fun a w gg F HM=>?_
 refine lxv (.bool false) F (Jg rfl) fun a F=>?_
 refine Jf ?_
 refine Kgr ?_
 refine lxv (.pointer (some ⟨gg,0,none⟩)) F (Kk (F.ev rfl)) fun a F=>?_
 refine lxv (num P) F (Us (F.ev rfl) (HM.get 0 rfl)) fun a F=>?_
 refine Jr F (Ja rfl _) rfl (by rfl) (Ji Try.func25 (by kernel_rfl) (by rfl) (.cons (F.ev rfl) .nil) _) ((fun w=>Uc P hP w) _) fun a w z F=>?_
 replace HM:=HM.on z
 clear z
 refine lxv (.bool false) F (Uk (m:=(Go.bitLen P:Nat)) hb0 (F.ev rfl) rfl) fun a F=>?_
 refine lxv (.bool false) F (Jc (F.ev rfl)) fun a F=>?_
 refine lxw 7 false (.pointer (some ⟨gg,4,none⟩)) F (Kh (F.ev rfl)) fun a F=>?_
 refine lxw 7 false (num Q) F (Va (F.ev rfl) (HM.get 0 rfl)) fun a F=>?_
 refine Jr F (F.want (t:=7) (c:=false) rfl rfl rfl (by rfl) rfl) rfl (by rfl) (Ji Try.func25 (by kernel_rfl) (by rfl) (.cons (F.ev rfl) .nil) _) ((fun w=>Uc Q hQ w) _) fun a w z F=>?_
 replace HM:=HM.on z
 clear z
 refine lxw 7 false (.bool false) F (Uk (m:=(Go.bitLen Q:Nat)) hb1 (F.ev rfl) rfl) fun a F=>?_
 refine lxv (.bool false) F (Jt (b:=false) (r:=.bool false) (F.ev rfl) rfl (F.ev rfl) rfl) fun a F=>?_
 refine lxv (.bool false) F (Jc (F.ev rfl)) fun a F=>?_
 refine lxw 13 false (.pointer (some ⟨gg,0,none⟩)) F (Kk (F.ev rfl)) fun a F=>?_
 refine lxw 13 false (.pointer (some ⟨gg,0,none⟩)) F (Ky (F.ev rfl) rfl) fun a F=>?_
 refine lxw 13 false (.int .u64 (wd P 0)) F (Kx (F.ev rfl) (HM.get 0 rfl) rfl) fun a F=>?_
 refine lxw 13 false (.pointer (some ⟨gg,4,none⟩)) F (Kh (F.ev rfl)) fun a F=>?_
 refine lxw 13 false (.pointer (some ⟨gg,4,none⟩)) F (Ky (F.ev rfl) rfl) fun a F=>?_
 refine lxw 13 false (.int .u64 (wd Q 0)) F (Kx (F.ev rfl) (HM.get 0 rfl) rfl) fun a F=>?_
 refine lxw 13 false (.int .u64 ((2*wd Q 0%18446744073709551616:Nat):Int)) F (Ww (Wt _ _) rfl rfl (F.ev rfl)) fun a F=>?_
 refine lxw 13 false (.int .u64 (((2*wd Q 0%18446744073709551616+1)%18446744073709551616:Nat):Int)) F (Xw (Nat.mod_lt _ (by decide)) rfl (F.ev rfl) rfl) fun a F=>?_
 refine lxw 13 false (.bool false) F (Jbt hb2 (F.ev rfl) (F.ev rfl)) fun a F=>?_
 refine lxv (.bool false) F (Jt (b:=false) (r:=.bool false) (F.ev rfl) rfl (F.ev rfl) rfl) fun a F=>?_
 refine Jf ?_
 refine Kgq ?_
 refine wp_cond_false (F.ev rfl) ?_
 refine Kgq ?_
 refine Ks (S:=fun w'=>Mem _ _ w' [(gg,26,gcs P Q G H)]) HM (fun _ h=>h) (by kernel_rfl) fun w HM HBW=>?_
 clear HBW
 try simp only [List.append_eq,List.cons_append,List.nil_append]
 refine Kw [⟨0,24,[],.val (.pointer (some ⟨gg,0,none⟩)),true⟩,
   ⟨1,25,[0],.val (.pointer (some ⟨gg,0,none⟩)),true⟩,
   ⟨2,26,[1],.val (.int .u64 (wd P 0)),true⟩,
   ⟨3,27,[2],.val (.bool true),false⟩,
   ⟨4,28,[3],.val (.bool true),true⟩,
   ⟨5,29,[4],.val (.pointer (some ⟨gg,4,none⟩)),true⟩,
   ⟨6,30,[4,5],.val (.pointer (some ⟨gg,4,none⟩)),true⟩,
   ⟨7,31,[4,6],.val (.int .u64 (wd Q 0)),true⟩,
   ⟨8,32,[4,7],.val (.bool true),false⟩,
   ⟨9,33,[4,8],.val (.bool true),true⟩,
   ⟨10,34,[9],.val (.bool true),true⟩,
   ⟨11,35,[10],.val (grp P Q G H),true⟩,
   ⟨12,36,[10,11],.val (.pointer (some ⟨gg,8,none⟩)),true⟩,
   ⟨13,37,[10,12],.val (num G),true⟩,
   ⟨14,38,[10,11,13],.val (.bool true),false⟩,
   ⟨15,39,[10,14],.val (.bool true),true⟩,
   ⟨16,40,[15],.val (.bool true),true⟩,
   ⟨17,41,[16],.val (grp P Q G H),true⟩,
   ⟨18,42,[16,17],.val (.pointer (some ⟨gg,12,none⟩)),true⟩,
   ⟨19,43,[16,18],.val (num H),true⟩,
   ⟨20,44,[16,17,19],.val (.bool false),false⟩,
   ⟨21,45,[16,20],.val (.bool false),true⟩,
   ⟨22,46,[21],.val (.bool false),true⟩,
   ⟨23,47,[22],.val undef,true⟩,
   ⟨24,48,[22,23],.val undef,true⟩,
   ⟨25,49,[22,24],.val undef,true⟩,
   ⟨26,50,[22,24,25],.val undef,true⟩,
   ⟨27,51,[22,26],.val (.bool false),true⟩,
   ⟨28,52,[27],.val (.bool false),true⟩,
   ⟨29,53,[28],.val undef,true⟩,
   ⟨30,54,[28,29],.val undef,true⟩,
   ⟨31,55,[28,30],.val undef,true⟩,
   ⟨32,56,[28,30,31],.val undef,true⟩,
   ⟨33,57,[28,32],.val (.bool false),true⟩] 1 _ F HM (fun _ h=>h.subl (by first | exact List.Sublist.refl _ | (repeat (first | exact List.Sublist.refl _ | refine List.Sublist.cons_cons _ ?_ | refine List.Sublist.cons _ ?_)))) (by kernel_rfl) (by rfl) ?_ ?_ ?_ ?_ ?_ ?_ ?_
 ·kernel_rfl
 ·exact of_decide_eq_true (by kernel_rfl)
 ·(repeat refine all_cons ⟨_,by rfl,by rfl⟩ ?_);exact Jj
 ·kernel_rfl
 ·(repeat (refine all_cons ?_ ?_;rotate_left));exact Jj
  all_goals try exact Jq _ (by rfl)
  ·exact Ug _ _ _ _ _ _ _ (by rfl) (by rfl) Jh (fun ρ w kn hs=>Kk (kn _ _ (F.old (by rfl) rfl)))
  ·exact crS (fun ρ w kn hs=>Ky (kn _ _ (kc 0 24)) (kn _ _ (Je _)))
  ·exact crS (fun ρ w kn hs=>Kx (kn _ _ (kc 1 25)) (hs.get 0 rfl) rfl)
  ·exact crS (fun ρ w kn hs=>Jc (kn _ _ (kc 3 27)))
  ·exact Ug _ _ _ _ _ _ _ (by rfl) (by rfl) (wc 4 28 4 (kc 4 28)) (fun ρ w kn hs=>Kh (kn _ _ (F.old (by rfl) rfl)))
  ·exact Ug _ _ _ _ _ _ _ (by rfl) (by rfl) (wc 4 28 4 (kc 4 28)) (fun ρ w kn hs=>Ky (kn _ _ (kc 5 29)) (kn _ _ (Je _)))
  ·exact Ug _ _ _ _ _ _ _ (by rfl) (by rfl) (wc 4 28 4 (kc 4 28)) (fun ρ w kn hs=>Kx (kn _ _ (kc 6 30)) (hs.get 0 rfl) rfl)
  ·exact crS (fun ρ w kn hs=>Jt (b:=true) (r:=.bool true) (kn _ _ (kc 4 28)) (kn _ _ (kc 8 32)) (kn _ _ (Je _)) rfl)
  ·exact crS (fun ρ w kn hs=>Jc (kn _ _ (kc 9 33)))
  ·exact Ug _ _ _ _ _ _ _ (by rfl) (by rfl) (wc 10 34 10 (kc 10 34)) (fun ρ w kn hs=>Jy (kn _ _ (F.old (by rfl) rfl)) (hs.get 0 rfl))
  ·exact Ug _ _ _ _ _ _ _ (by rfl) (by rfl) (wc 10 34 10 (kc 10 34)) (fun ρ w kn hs=>Vq (kn _ _ (F.old (by rfl) rfl)))
  ·exact Ug _ _ _ _ _ _ _ (by rfl) (by rfl) (wc 10 34 10 (kc 10 34)) (fun ρ w kn hs=>We (kn _ _ (kc 12 36)) (hs.get 0 rfl))
  ·exact crS (fun ρ w kn hs=>Jt (b:=true) (r:=.bool true) (kn _ _ (kc 10 34)) (kn _ _ (kc 14 38)) (kn _ _ (Je _)) rfl)
  ·exact crS (fun ρ w kn hs=>Jc (kn _ _ (kc 15 39)))
  ·exact Ug _ _ _ _ _ _ _ (by rfl) (by rfl) (wc 16 40 16 (kc 16 40)) (fun ρ w kn hs=>Jy (kn _ _ (F.old (by rfl) rfl)) (hs.get 0 rfl))
  ·exact Ug _ _ _ _ _ _ _ (by rfl) (by rfl) (wc 16 40 16 (kc 16 40)) (fun ρ w kn hs=>Xh (kn _ _ (F.old (by rfl) rfl)))
  ·exact Ug _ _ _ _ _ _ _ (by rfl) (by rfl) (wc 16 40 16 (kc 16 40)) (fun ρ w kn hs=>Jah (kn _ _ (kc 18 42)) (hs.get 0 rfl))
  ·exact crS (fun ρ w kn hs=>Jt (b:=true) (r:=.bool false) (kn _ _ (kc 16 40)) (kn _ _ (kc 20 44)) (kn _ _ (Je _)) rfl)
  ·exact crS (fun ρ w kn hs=>Jc (kn _ _ (kc 21 45)))
  ·exact Jl _ _ _ _ _ _ (by rfl) (by rfl) (wc 22 46 22 (kc 22 46))
  ·exact Jl _ _ _ _ _ _ (by rfl) (by rfl) (wc 22 46 22 (kc 22 46))
  ·exact Jl _ _ _ _ _ _ (by rfl) (by rfl) (wc 22 46 22 (kc 22 46))
  ·exact Jl _ _ _ _ _ _ (by rfl) (by rfl) (wc 22 46 22 (kc 22 46))
  ·exact crS (fun ρ w kn hs=>Jt (b:=false) (r:=.bool false) (kn _ _ (kc 22 46)) (kn _ _ (kc 26 50)) (kn _ _ (Je _)) rfl)
  ·exact crS (fun ρ w kn hs=>Jc (kn _ _ (kc 27 51)))
  ·exact Jl _ _ _ _ _ _ (by rfl) (by rfl) (wc 28 52 28 (kc 28 52))
  ·exact Jl _ _ _ _ _ _ (by rfl) (by rfl) (wc 28 52 28 (kc 28 52))
  ·exact Jl _ _ _ _ _ _ (by rfl) (by rfl) (wc 28 52 28 (kc 28 52))
  ·exact Jl _ _ _ _ _ _ (by rfl) (by rfl) (wc 28 52 28 (kc 28 52))
  ·exact crS (fun ρ w kn hs=>Jt (b:=false) (r:=.bool false) (kn _ _ (kc 28 52)) (kn _ _ (kc 32 56)) (kn _ _ (Je _)) rfl)
 ·(repeat (refine all_cons ?_ ?_;rotate_left));exact Jj
  all_goals try exact sA
  ·exact fun _=>Jm _ 40 _ _ [.tmp 26] _ _ _ _ _ _ _ (by rfl) Try.func40 (by kernel_rfl) (by rfl) (by rfl) (Jh) (.cons (kc 2 26) .nil) ((fun w=>Uy hc0 (Wt _ _) w))
  ·exact fun _=>Jm _ 40 _ _ [.tmp 31] _ _ _ _ _ _ _ (by rfl) Try.func40 (by kernel_rfl) (by rfl) (by rfl) (wc 4 28 4 (kc 4 28)) (.cons (kc 7 31) .nil) ((fun w=>Uy hc1 (Wt _ _) w))
  ·exact fun _=>Jm _ 41 _ _ [.tmp 35,.tmp 37] _ _ _ _ _ _ _ (by rfl) Try.func41 (by kernel_rfl) (by rfl) (by rfl) (wc 10 34 10 (kc 10 34)) (.cons (kc 11 35) (.cons (kc 13 37) .nil)) ((fun w=>Jbb P Q G H G hc2 hP hQ hG w))
  ·exact fun _=>Jm _ 41 _ _ [.tmp 41,.tmp 43] _ _ _ _ _ _ _ (by rfl) Try.func41 (by kernel_rfl) (by rfl) (by rfl) (wc 16 40 16 (kc 16 40)) (.cons (kc 17 41) (.cons (kc 19 43) .nil)) ((fun w=>Jbb P Q G H H hc3 hP hQ hH w))
 intro gs rs a w hgs hrs F HM HBW HR HO HT
 obtain rfl:=nl0 rs hrs
 obtain rfl:=nl0 gs hgs
 clear hrs hgs HR HBW HO
 clear HT
 refine Kq (i:=34) (d:=2) (x:=.tmp 57) (v:=.bool false) F ((HM.subl (by first | exact List.Sublist.refl _ | (repeat (first | exact List.Sublist.refl _ | refine List.Sublist.cons_cons _ ?_ | refine List.Sublist.cons _ ?_))))) (by kernel_rfl) (by rfl) (by rfl) (F.ev rfl) fun a F=>?_
 refine Ui (by kernel_rfl) ?_ _
 refine Kgq ?_
 refine wp_ret ?_
 repeat (first | refine Jv ?_ | refine Jp ?_)
 exact Kv F HM (Kt F rfl (s:=2) rfl)

set_option maxRecDepth 100000 in
set_option maxHeartbeats 800000 in
theorem good_b4 (P Q G H:Nat) (hP:P<2^256) (hQ:Q<2^256) (hG:G<2^256) (hH:H<2^256) (w0:World) (hb0:decide ((32:Int)<(Go.bitLen P:Nat))=false) (hb1:decide ((31:Int)<(Go.bitLen Q:Nat))=false) (hb2:decide (wd P 0≠(2*wd Q 0%18446744073709551616+1)%18446744073709551616)=false) (hc0:smallB (wd P 0)=true) (hc1:smallB (wd Q 0)=true) (hc2:inB P Q G=true) (hc3:inB P Q H=true) (hc4:decide (G=1)=true):Calls Try.prog 18 #[grp P Q G H] w0 fun e w'=>e=.returned (.bool false)∧Below w0.heap.size w0 w':=by
 refine Kc (args:=[grp P Q G H]) Try.func18 rfl Try.ntmps18 (by rfl) fun a F HM=>?_
 refine Kgr ?_
 refine Jn F HM (Ja rfl _) rfl (by rfl) (Kn (F.ev rfl)) fun a w gg F HM=>?_
 refine lxv (.bool false) F (Jg rfl) fun a F=>?_
 refine Jf ?_
 refine Kgr ?_
 refine lxv (.pointer (some ⟨gg,0,none⟩)) F (Kk (F.ev rfl)) fun a F=>?_
 refine lxv (num P) F (Us (F.ev rfl) (HM.get 0 rfl)) fun a F=>?_
 refine Jr F (Ja rfl _) rfl (by rfl) (Ji Try.func25 (by kernel_rfl) (by rfl) (.cons (F.ev rfl) .nil) _) ((fun w=>Uc P hP w) _) fun a w z F=>?_
 replace HM:=HM.on z
 clear z
 refine lxv (.bool false) F (Uk (m:=(Go.bitLen P:Nat)) hb0 (F.ev rfl) rfl) fun a F=>?_
 refine lxv (.bool false) F (Jc (F.ev rfl)) fun a F=>?_
 refine lxw 7 false (.pointer (some ⟨gg,4,none⟩)) F (Kh (F.ev rfl)) fun a F=>?_
 refine lxw 7 false (num Q) F (Va (F.ev rfl) (HM.get 0 rfl)) fun a F=>?_
 refine Jr F (F.want (t:=7) (c:=false) rfl rfl rfl (by rfl) rfl) rfl (by rfl) (Ji Try.func25 (by kernel_rfl) (by rfl) (.cons (F.ev rfl) .nil) _) ((fun w=>Uc Q hQ w) _) fun a w z F=>?_
 replace HM:=HM.on z
 clear z
 refine lxw 7 false (.bool false) F (Uk (m:=(Go.bitLen Q:Nat)) hb1 (F.ev rfl) rfl) fun a F=>?_
 refine lxv (.bool false) F (Jt (b:=false) (r:=.bool false) (F.ev rfl) rfl (F.ev rfl) rfl) fun a F=>?_
 refine lxv (.bool false) F (Jc (F.ev rfl)) fun a F=>?_
 refine lxw 13 false (.pointer (some ⟨gg,0,none⟩)) F (Kk (F.ev rfl)) fun a F=>?_
 refine lxw 13 false (.pointer (some ⟨gg,0,none⟩)) F (Ky (F.ev rfl) rfl) fun a F=>?_
 refine lxw 13 false (.int .u64 (wd P 0)) F (Kx (F.ev rfl) (HM.get 0 rfl) rfl) fun a F=>?_
 refine lxw 13 false (.pointer (some ⟨gg,4,none⟩)) F (Kh (F.ev rfl)) fun a F=>?_
 refine lxw 13 false (.pointer (some ⟨gg,4,none⟩)) F (Ky (F.ev rfl) rfl) fun a F=>?_
 refine lxw 13 false (.int .u64 (wd Q 0)) F (Kx (F.ev rfl) (HM.get 0 rfl) rfl) fun a F=>?_
 refine lxw 13 false (.int .u64 ((2*wd Q 0%18446744073709551616:Nat):Int)) F (Ww (Wt _ _) rfl rfl (F.ev rfl)) fun a F=>?_
 refine lxw 13 false (.int .u64 (((2*wd Q 0%18446744073709551616+1)%18446744073709551616:Nat):Int)) F (Xw (Nat.mod_lt _ (by decide)) rfl (F.ev rfl) rfl) fun a F=>?_
 refine lxw 13 false (.bool false) F (Jbt hb2 (F.ev rfl) (F.ev rfl)) fun a F=>?_
 refine lxv (.bool false) F (Jt (b:=false) (r:=.bool false) (F.ev rfl) rfl (F.ev rfl) rfl) fun a F=>?_
 refine Jf ?_
 refine Kgq ?_
 refine wp_cond_false (F.ev rfl) ?_
 refine Kgq ?_
 refine Ks (S:=fun w'=>Mem _ _ w' [(gg,26,gcs P Q G H)]) HM (fun _ h=>h) (by kernel_rfl) fun w HM HBW=>?_
 clear HBW
 try simp only [List.append_eq,List.cons_append,List.nil_append]
 refine Kw [⟨0,24,[],.val (.pointer (some ⟨gg,0,none⟩)),true⟩,
   ⟨1,25,[0],.val (.pointer (some ⟨gg,0,none⟩)),true⟩,
   ⟨2,26,[1],.val (.int .u64 (wd P 0)),true⟩,
   ⟨3,27,[2],.val (.bool true),false⟩,
   ⟨4,28,[3],.val (.bool true),true⟩,
   ⟨5,29,[4],.val (.pointer (some ⟨gg,4,none⟩)),true⟩,
   ⟨6,30,[4,5],.val (.pointer (some ⟨gg,4,none⟩)),true⟩,
   ⟨7,31,[4,6],.val (.int .u64 (wd Q 0)),true⟩,
   ⟨8,32,[4,7],.val (.bool true),false⟩,
   ⟨9,33,[4,8],.val (.bool true),true⟩,
   ⟨10,34,[9],.val (.bool true),true⟩,
   ⟨11,35,[10],.val (grp P Q G H),true⟩,
   ⟨12,36,[10,11],.val (.pointer (some ⟨gg,8,none⟩)),true⟩,
   ⟨13,37,[10,12],.val (num G),true⟩,
   ⟨14,38,[10,11,13],.val (.bool true),false⟩,
   ⟨15,39,[10,14],.val (.bool true),true⟩,
   ⟨16,40,[15],.val (.bool true),true⟩,
   ⟨17,41,[16],.val (grp P Q G H),true⟩,
   ⟨18,42,[16,17],.val (.pointer (some ⟨gg,12,none⟩)),true⟩,
   ⟨19,43,[16,18],.val (num H),true⟩,
   ⟨20,44,[16,17,19],.val (.bool true),false⟩,
   ⟨21,45,[16,20],.val (.bool true),true⟩,
   ⟨22,46,[21],.val (.bool true),true⟩,
   ⟨23,47,[22],.val (.pointer (some ⟨gg,8,none⟩)),true⟩,
   ⟨24,48,[22,23],.val (num G),true⟩,
   ⟨25,49,[22,24],.val (num 1),false⟩,
   ⟨26,50,[22,24,25],.val (.bool false),true⟩,
   ⟨27,51,[22,26],.val (.bool false),true⟩,
   ⟨28,52,[27],.val (.bool false),true⟩,
   ⟨29,53,[28],.val undef,true⟩,
   ⟨30,54,[28,29],.val undef,true⟩,
   ⟨31,55,[28,30],.val undef,true⟩,
   ⟨32,56,[28,30,31],.val undef,true⟩,
   ⟨33,57,[28,32],.val (.bool false),true⟩] 1 _ F HM (fun _ h=>h.subl (by first | exact List.Sublist.refl _ | (repeat (first | exact List.Sublist.refl _ | refine List.Sublist.cons_cons _ ?_ | refine List.Sublist.cons _ ?_)))) (by kernel_rfl) (by rfl) ?_ ?_ ?_ ?_ ?_ ?_ ?_
 ·kernel_rfl
 ·exact of_decide_eq_true (by kernel_rfl)
 ·(repeat refine all_cons ⟨_,by rfl,by rfl⟩ ?_);exact Jj
 ·kernel_rfl
 ·(repeat (refine all_cons ?_ ?_;rotate_left));exact Jj
  all_goals try exact Jq _ (by rfl)
  ·exact Ug _ _ _ _ _ _ _ (by rfl) (by rfl) Jh (fun ρ w kn hs=>Kk (kn _ _ (F.old (by rfl) rfl)))
  ·exact crS (fun ρ w kn hs=>Ky (kn _ _ (kc 0 24)) (kn _ _ (Je _)))
  ·exact crS (fun ρ w kn hs=>Kx (kn _ _ (kc 1 25)) (hs.get 0 rfl) rfl)
  ·exact crS (fun ρ w kn hs=>Jc (kn _ _ (kc 3 27)))
  ·exact Ug _ _ _ _ _ _ _ (by rfl) (by rfl) (wc 4 28 4 (kc 4 28)) (fun ρ w kn hs=>Kh (kn _ _ (F.old (by rfl) rfl)))
  ·exact Ug _ _ _ _ _ _ _ (by rfl) (by rfl) (wc 4 28 4 (kc 4 28)) (fun ρ w kn hs=>Ky (kn _ _ (kc 5 29)) (kn _ _ (Je _)))
  ·exact Ug _ _ _ _ _ _ _ (by rfl) (by rfl) (wc 4 28 4 (kc 4 28)) (fun ρ w kn hs=>Kx (kn _ _ (kc 6 30)) (hs.get 0 rfl) rfl)
  ·exact crS (fun ρ w kn hs=>Jt (b:=true) (r:=.bool true) (kn _ _ (kc 4 28)) (kn _ _ (kc 8 32)) (kn _ _ (Je _)) rfl)
  ·exact crS (fun ρ w kn hs=>Jc (kn _ _ (kc 9 33)))
  ·exact Ug _ _ _ _ _ _ _ (by rfl) (by rfl) (wc 10 34 10 (kc 10 34)) (fun ρ w kn hs=>Jy (kn _ _ (F.old (by rfl) rfl)) (hs.get 0 rfl))
  ·exact Ug _ _ _ _ _ _ _ (by rfl) (by rfl) (wc 10 34 10 (kc 10 34)) (fun ρ w kn hs=>Vq (kn _ _ (F.old (by rfl) rfl)))
  ·exact Ug _ _ _ _ _ _ _ (by rfl) (by rfl) (wc 10 34 10 (kc 10 34)) (fun ρ w kn hs=>We (kn _ _ (kc 12 36)) (hs.get 0 rfl))
  ·exact crS (fun ρ w kn hs=>Jt (b:=true) (r:=.bool true) (kn _ _ (kc 10 34)) (kn _ _ (kc 14 38)) (kn _ _ (Je _)) rfl)
  ·exact crS (fun ρ w kn hs=>Jc (kn _ _ (kc 15 39)))
  ·exact Ug _ _ _ _ _ _ _ (by rfl) (by rfl) (wc 16 40 16 (kc 16 40)) (fun ρ w kn hs=>Jy (kn _ _ (F.old (by rfl) rfl)) (hs.get 0 rfl))
  ·exact Ug _ _ _ _ _ _ _ (by rfl) (by rfl) (wc 16 40 16 (kc 16 40)) (fun ρ w kn hs=>Xh (kn _ _ (F.old (by rfl) rfl)))
  ·exact Ug _ _ _ _ _ _ _ (by rfl) (by rfl) (wc 16 40 16 (kc 16 40)) (fun ρ w kn hs=>Jah (kn _ _ (kc 18 42)) (hs.get 0 rfl))
  ·exact crS (fun ρ w kn hs=>Jt (b:=true) (r:=.bool true) (kn _ _ (kc 16 40)) (kn _ _ (kc 20 44)) (kn _ _ (Je _)) rfl)
  ·exact crS (fun ρ w kn hs=>Jc (kn _ _ (kc 21 45)))
  ·exact Ug _ _ _ _ _ _ _ (by rfl) (by rfl) (wc 22 46 22 (kc 22 46)) (fun ρ w kn hs=>Vq (kn _ _ (F.old (by rfl) rfl)))
  ·exact Ug _ _ _ _ _ _ _ (by rfl) (by rfl) (wc 22 46 22 (kc 22 46)) (fun ρ w kn hs=>We (kn _ _ (kc 23 47)) (hs.get 0 rfl))
  ·exact Ug _ _ _ _ _ _ _ (by rfl) (by rfl) (wc 22 46 22 (kc 22 46)) (fun ρ w kn hs=>Jax hG (by decide) hc4 (kn _ _ (kc 24 48)) (kn _ _ (kc 25 49)))
  ·exact crS (fun ρ w kn hs=>Jt (b:=true) (r:=.bool false) (kn _ _ (kc 22 46)) (kn _ _ (kc 26 50)) (kn _ _ (Je _)) rfl)
  ·exact crS (fun ρ w kn hs=>Jc (kn _ _ (kc 27 51)))
  ·exact Jl _ _ _ _ _ _ (by rfl) (by rfl) (wc 28 52 28 (kc 28 52))
  ·exact Jl _ _ _ _ _ _ (by rfl) (by rfl) (wc 28 52 28 (kc 28 52))
  ·exact Jl _ _ _ _ _ _ (by rfl) (by rfl) (wc 28 52 28 (kc 28 52))
  ·exact Jl _ _ _ _ _ _ (by rfl) (by rfl) (wc 28 52 28 (kc 28 52))
  ·exact crS (fun ρ w kn hs=>Jt (b:=false) (r:=.bool false) (kn _ _ (kc 28 52)) (kn _ _ (kc 32 56)) (kn _ _ (Je _)) rfl)
 ·(repeat (refine all_cons ?_ ?_;rotate_left));exact Jj
  all_goals try exact sA
  ·exact fun _=>Jm _ 40 _ _ [.tmp 26] _ _ _ _ _ _ _ (by rfl) Try.func40 (by kernel_rfl) (by rfl) (by rfl) (Jh) (.cons (kc 2 26) .nil) ((fun w=>Uy hc0 (Wt _ _) w))
  ·exact fun _=>Jm _ 40 _ _ [.tmp 31] _ _ _ _ _ _ _ (by rfl) Try.func40 (by kernel_rfl) (by rfl) (by rfl) (wc 4 28 4 (kc 4 28)) (.cons (kc 7 31) .nil) ((fun w=>Uy hc1 (Wt _ _) w))
  ·exact fun _=>Jm _ 41 _ _ [.tmp 35,.tmp 37] _ _ _ _ _ _ _ (by rfl) Try.func41 (by kernel_rfl) (by rfl) (by rfl) (wc 10 34 10 (kc 10 34)) (.cons (kc 11 35) (.cons (kc 13 37) .nil)) ((fun w=>Jbb P Q G H G hc2 hP hQ hG w))
  ·exact fun _=>Jm _ 41 _ _ [.tmp 41,.tmp 43] _ _ _ _ _ _ _ (by rfl) Try.func41 (by kernel_rfl) (by rfl) (by rfl) (wc 16 40 16 (kc 16 40)) (.cons (kc 17 41) (.cons (kc 19 43) .nil)) ((fun w=>Jbb P Q G H H hc3 hP hQ hH w))
  ·exact fun _=>Jm _ 35 _ _ [.const (.int .u64 1)] _ _ _ _ _ _ _ (by rfl) Try.func35 (by kernel_rfl) (by rfl) (by rfl) (wc 22 46 22 (kc 22 46)) (.cons (Je _) .nil) ((fun w=>Xn 1 (by decide) w))
 intro gs rs a w hgs hrs F HM HBW HR HO HT
 obtain rfl:=nl0 rs hrs
 obtain rfl:=nl0 gs hgs
 clear hrs hgs HR HBW HO
 clear HT
 refine Kq (i:=34) (d:=2) (x:=.tmp 57) (v:=.bool false) F ((HM.subl (by first | exact List.Sublist.refl _ | (repeat (first | exact List.Sublist.refl _ | refine List.Sublist.cons_cons _ ?_ | refine List.Sublist.cons _ ?_))))) (by kernel_rfl) (by rfl) (by rfl) (F.ev rfl) fun a F=>?_
 refine Ui (by kernel_rfl) ?_ _
 refine Kgq ?_
 refine wp_ret ?_
 repeat (first | refine Jv ?_ | refine Jp ?_)
 exact Kv F HM (Kt F rfl (s:=2) rfl)

set_option maxRecDepth 100000 in
set_option maxHeartbeats 800000 in
theorem good_b5 (P Q G H:Nat) (hP:P<2^256) (hQ:Q<2^256) (hG:G<2^256) (hH:H<2^256) (w0:World) (hb0:decide ((32:Int)<(Go.bitLen P:Nat))=false) (hb1:decide ((31:Int)<(Go.bitLen Q:Nat))=false) (hb2:decide (wd P 0≠(2*wd Q 0%18446744073709551616+1)%18446744073709551616)=false) (hc0:smallB (wd P 0)=true) (hc1:smallB (wd Q 0)=true) (hc2:inB P Q G=true) (hc3:inB P Q H=true) (hc4:decide (G=1)=false) (hc5:decide (H=1)=true):Calls Try.prog 18 #[grp P Q G H] w0 fun e w'=>e=.returned (.bool false)∧Below w0.heap.size w0 w':=by
 refine Kc (args:=[grp P Q G H]) Try.func18 rfl Try.ntmps18 (by rfl) fun a F HM=>?_
 refine Kgr ?_
 refine Jn F HM (Ja rfl _) rfl (by rfl) (Kn (F.ev rfl)) fun a w gg F HM=>?_
 refine lxv (.bool false) F (Jg rfl) fun a F=>?_
 refine Jf ?_
 refine Kgr ?_
 refine lxv (.pointer (some ⟨gg,0,none⟩)) F (Kk (F.ev rfl)) fun a F=>?_
 refine lxv (num P) F (Us (F.ev rfl) (HM.get 0 rfl)) fun a F=>?_
 refine Jr F (Ja rfl _) rfl (by rfl) (Ji Try.func25 (by kernel_rfl) (by rfl) (.cons (F.ev rfl) .nil) _) ((fun w=>Uc P hP w) _) fun a w z F=>?_
 replace HM:=HM.on z
 clear z
 refine lxv (.bool false) F (Uk (m:=(Go.bitLen P:Nat)) hb0 (F.ev rfl) rfl) fun a F=>?_
 refine lxv (.bool false) F (Jc (F.ev rfl)) fun a F=>?_
 refine lxw 7 false (.pointer (some ⟨gg,4,none⟩)) F (Kh (F.ev rfl)) fun a F=>?_
 refine lxw 7 false (num Q) F (Va (F.ev rfl) (HM.get 0 rfl)) fun a F=>?_
 refine Jr F (F.want (t:=7) (c:=false) rfl rfl rfl (by rfl) rfl) rfl (by rfl) (Ji Try.func25 (by kernel_rfl) (by rfl) (.cons (F.ev rfl) .nil) _) ((fun w=>Uc Q hQ w) _) fun a w z F=>?_
 replace HM:=HM.on z
 clear z
 refine lxw 7 false (.bool false) F (Uk (m:=(Go.bitLen Q:Nat)) hb1 (F.ev rfl) rfl) fun a F=>?_
 refine lxv (.bool false) F (Jt (b:=false) (r:=.bool false) (F.ev rfl) rfl (F.ev rfl) rfl) fun a F=>?_
 refine lxv (.bool false) F (Jc (F.ev rfl)) fun a F=>?_
 refine lxw 13 false (.pointer (some ⟨gg,0,none⟩)) F (Kk (F.ev rfl)) fun a F=>?_
 refine lxw 13 false (.pointer (some ⟨gg,0,none⟩)) F (Ky (F.ev rfl) rfl) fun a F=>?_
 refine lxw 13 false (.int .u64 (wd P 0)) F (Kx (F.ev rfl) (HM.get 0 rfl) rfl) fun a F=>?_
 refine lxw 13 false (.pointer (some ⟨gg,4,none⟩)) F (Kh (F.ev rfl)) fun a F=>?_
 refine lxw 13 false (.pointer (some ⟨gg,4,none⟩)) F (Ky (F.ev rfl) rfl) fun a F=>?_
 refine lxw 13 false (.int .u64 (wd Q 0)) F (Kx (F.ev rfl) (HM.get 0 rfl) rfl) fun a F=>?_
 refine lxw 13 false (.int .u64 ((2*wd Q 0%18446744073709551616:Nat):Int)) F (Ww (Wt _ _) rfl rfl (F.ev rfl)) fun a F=>?_
 refine lxw 13 false (.int .u64 (((2*wd Q 0%18446744073709551616+1)%18446744073709551616:Nat):Int)) F (Xw (Nat.mod_lt _ (by decide)) rfl (F.ev rfl) rfl) fun a F=>?_
 refine lxw 13 false (.bool false) F (Jbt hb2 (F.ev rfl) (F.ev rfl)) fun a F=>?_
 refine lxv (.bool false) F (Jt (b:=false) (r:=.bool false) (F.ev rfl) rfl (F.ev rfl) rfl) fun a F=>?_
 refine Jf ?_
 refine Kgq ?_
 refine wp_cond_false (F.ev rfl) ?_
 refine Kgq ?_
 refine Ks (S:=fun w'=>Mem _ _ w' [(gg,26,gcs P Q G H)]) HM (fun _ h=>h) (by kernel_rfl) fun w HM HBW=>?_
 clear HBW
 try simp only [List.append_eq,List.cons_append,List.nil_append]
 refine Kw [⟨0,24,[],.val (.pointer (some ⟨gg,0,none⟩)),true⟩,
   ⟨1,25,[0],.val (.pointer (some ⟨gg,0,none⟩)),true⟩,
   ⟨2,26,[1],.val (.int .u64 (wd P 0)),true⟩,
   ⟨3,27,[2],.val (.bool true),false⟩,
   ⟨4,28,[3],.val (.bool true),true⟩,
   ⟨5,29,[4],.val (.pointer (some ⟨gg,4,none⟩)),true⟩,
   ⟨6,30,[4,5],.val (.pointer (some ⟨gg,4,none⟩)),true⟩,
   ⟨7,31,[4,6],.val (.int .u64 (wd Q 0)),true⟩,
   ⟨8,32,[4,7],.val (.bool true),false⟩,
   ⟨9,33,[4,8],.val (.bool true),true⟩,
   ⟨10,34,[9],.val (.bool true),true⟩,
   ⟨11,35,[10],.val (grp P Q G H),true⟩,
   ⟨12,36,[10,11],.val (.pointer (some ⟨gg,8,none⟩)),true⟩,
   ⟨13,37,[10,12],.val (num G),true⟩,
   ⟨14,38,[10,11,13],.val (.bool true),false⟩,
   ⟨15,39,[10,14],.val (.bool true),true⟩,
   ⟨16,40,[15],.val (.bool true),true⟩,
   ⟨17,41,[16],.val (grp P Q G H),true⟩,
   ⟨18,42,[16,17],.val (.pointer (some ⟨gg,12,none⟩)),true⟩,
   ⟨19,43,[16,18],.val (num H),true⟩,
   ⟨20,44,[16,17,19],.val (.bool true),false⟩,
   ⟨21,45,[16,20],.val (.bool true),true⟩,
   ⟨22,46,[21],.val (.bool true),true⟩,
   ⟨23,47,[22],.val (.pointer (some ⟨gg,8,none⟩)),true⟩,
   ⟨24,48,[22,23],.val (num G),true⟩,
   ⟨25,49,[22,24],.val (num 1),false⟩,
   ⟨26,50,[22,24,25],.val (.bool true),true⟩,
   ⟨27,51,[22,26],.val (.bool true),true⟩,
   ⟨28,52,[27],.val (.bool true),true⟩,
   ⟨29,53,[28],.val (.pointer (some ⟨gg,12,none⟩)),true⟩,
   ⟨30,54,[28,29],.val (num H),true⟩,
   ⟨31,55,[28,30],.val (num 1),false⟩,
   ⟨32,56,[28,30,31],.val (.bool false),true⟩,
   ⟨33,57,[28,32],.val (.bool false),true⟩] 1 _ F HM (fun _ h=>h.subl (by first | exact List.Sublist.refl _ | (repeat (first | exact List.Sublist.refl _ | refine List.Sublist.cons_cons _ ?_ | refine List.Sublist.cons _ ?_)))) (by kernel_rfl) (by rfl) ?_ ?_ ?_ ?_ ?_ ?_ ?_
 ·kernel_rfl
 ·exact of_decide_eq_true (by kernel_rfl)
 ·(repeat refine all_cons ⟨_,by rfl,by rfl⟩ ?_);exact Jj
 ·kernel_rfl
 ·(repeat (refine all_cons ?_ ?_;rotate_left));exact Jj
  all_goals try exact Jq _ (by rfl)
  ·exact Ug _ _ _ _ _ _ _ (by rfl) (by rfl) Jh (fun ρ w kn hs=>Kk (kn _ _ (F.old (by rfl) rfl)))
  ·exact crS (fun ρ w kn hs=>Ky (kn _ _ (kc 0 24)) (kn _ _ (Je _)))
  ·exact crS (fun ρ w kn hs=>Kx (kn _ _ (kc 1 25)) (hs.get 0 rfl) rfl)
  ·exact crS (fun ρ w kn hs=>Jc (kn _ _ (kc 3 27)))
  ·exact Ug _ _ _ _ _ _ _ (by rfl) (by rfl) (wc 4 28 4 (kc 4 28)) (fun ρ w kn hs=>Kh (kn _ _ (F.old (by rfl) rfl)))
  ·exact Ug _ _ _ _ _ _ _ (by rfl) (by rfl) (wc 4 28 4 (kc 4 28)) (fun ρ w kn hs=>Ky (kn _ _ (kc 5 29)) (kn _ _ (Je _)))
  ·exact Ug _ _ _ _ _ _ _ (by rfl) (by rfl) (wc 4 28 4 (kc 4 28)) (fun ρ w kn hs=>Kx (kn _ _ (kc 6 30)) (hs.get 0 rfl) rfl)
  ·exact crS (fun ρ w kn hs=>Jt (b:=true) (r:=.bool true) (kn _ _ (kc 4 28)) (kn _ _ (kc 8 32)) (kn _ _ (Je _)) rfl)
  ·exact crS (fun ρ w kn hs=>Jc (kn _ _ (kc 9 33)))
  ·exact Ug _ _ _ _ _ _ _ (by rfl) (by rfl) (wc 10 34 10 (kc 10 34)) (fun ρ w kn hs=>Jy (kn _ _ (F.old (by rfl) rfl)) (hs.get 0 rfl))
  ·exact Ug _ _ _ _ _ _ _ (by rfl) (by rfl) (wc 10 34 10 (kc 10 34)) (fun ρ w kn hs=>Vq (kn _ _ (F.old (by rfl) rfl)))
  ·exact Ug _ _ _ _ _ _ _ (by rfl) (by rfl) (wc 10 34 10 (kc 10 34)) (fun ρ w kn hs=>We (kn _ _ (kc 12 36)) (hs.get 0 rfl))
  ·exact crS (fun ρ w kn hs=>Jt (b:=true) (r:=.bool true) (kn _ _ (kc 10 34)) (kn _ _ (kc 14 38)) (kn _ _ (Je _)) rfl)
  ·exact crS (fun ρ w kn hs=>Jc (kn _ _ (kc 15 39)))
  ·exact Ug _ _ _ _ _ _ _ (by rfl) (by rfl) (wc 16 40 16 (kc 16 40)) (fun ρ w kn hs=>Jy (kn _ _ (F.old (by rfl) rfl)) (hs.get 0 rfl))
  ·exact Ug _ _ _ _ _ _ _ (by rfl) (by rfl) (wc 16 40 16 (kc 16 40)) (fun ρ w kn hs=>Xh (kn _ _ (F.old (by rfl) rfl)))
  ·exact Ug _ _ _ _ _ _ _ (by rfl) (by rfl) (wc 16 40 16 (kc 16 40)) (fun ρ w kn hs=>Jah (kn _ _ (kc 18 42)) (hs.get 0 rfl))
  ·exact crS (fun ρ w kn hs=>Jt (b:=true) (r:=.bool true) (kn _ _ (kc 16 40)) (kn _ _ (kc 20 44)) (kn _ _ (Je _)) rfl)
  ·exact crS (fun ρ w kn hs=>Jc (kn _ _ (kc 21 45)))
  ·exact Ug _ _ _ _ _ _ _ (by rfl) (by rfl) (wc 22 46 22 (kc 22 46)) (fun ρ w kn hs=>Vq (kn _ _ (F.old (by rfl) rfl)))
  ·exact Ug _ _ _ _ _ _ _ (by rfl) (by rfl) (wc 22 46 22 (kc 22 46)) (fun ρ w kn hs=>We (kn _ _ (kc 23 47)) (hs.get 0 rfl))
  ·exact Ug _ _ _ _ _ _ _ (by rfl) (by rfl) (wc 22 46 22 (kc 22 46)) (fun ρ w kn hs=>Jax hG (by decide) hc4 (kn _ _ (kc 24 48)) (kn _ _ (kc 25 49)))
  ·exact crS (fun ρ w kn hs=>Jt (b:=true) (r:=.bool true) (kn _ _ (kc 22 46)) (kn _ _ (kc 26 50)) (kn _ _ (Je _)) rfl)
  ·exact crS (fun ρ w kn hs=>Jc (kn _ _ (kc 27 51)))
  ·exact Ug _ _ _ _ _ _ _ (by rfl) (by rfl) (wc 28 52 28 (kc 28 52)) (fun ρ w kn hs=>Xh (kn _ _ (F.old (by rfl) rfl)))
  ·exact Ug _ _ _ _ _ _ _ (by rfl) (by rfl) (wc 28 52 28 (kc 28 52)) (fun ρ w kn hs=>Jah (kn _ _ (kc 29 53)) (hs.get 0 rfl))
  ·exact Ug _ _ _ _ _ _ _ (by rfl) (by rfl) (wc 28 52 28 (kc 28 52)) (fun ρ w kn hs=>Jax hH (by decide) hc5 (kn _ _ (kc 30 54)) (kn _ _ (kc 31 55)))
  ·exact crS (fun ρ w kn hs=>Jt (b:=true) (r:=.bool false) (kn _ _ (kc 28 52)) (kn _ _ (kc 32 56)) (kn _ _ (Je _)) rfl)
 ·(repeat (refine all_cons ?_ ?_;rotate_left));exact Jj
  all_goals try exact sA
  ·exact fun _=>Jm _ 40 _ _ [.tmp 26] _ _ _ _ _ _ _ (by rfl) Try.func40 (by kernel_rfl) (by rfl) (by rfl) (Jh) (.cons (kc 2 26) .nil) ((fun w=>Uy hc0 (Wt _ _) w))
  ·exact fun _=>Jm _ 40 _ _ [.tmp 31] _ _ _ _ _ _ _ (by rfl) Try.func40 (by kernel_rfl) (by rfl) (by rfl) (wc 4 28 4 (kc 4 28)) (.cons (kc 7 31) .nil) ((fun w=>Uy hc1 (Wt _ _) w))
  ·exact fun _=>Jm _ 41 _ _ [.tmp 35,.tmp 37] _ _ _ _ _ _ _ (by rfl) Try.func41 (by kernel_rfl) (by rfl) (by rfl) (wc 10 34 10 (kc 10 34)) (.cons (kc 11 35) (.cons (kc 13 37) .nil)) ((fun w=>Jbb P Q G H G hc2 hP hQ hG w))
  ·exact fun _=>Jm _ 41 _ _ [.tmp 41,.tmp 43] _ _ _ _ _ _ _ (by rfl) Try.func41 (by kernel_rfl) (by rfl) (by rfl) (wc 16 40 16 (kc 16 40)) (.cons (kc 17 41) (.cons (kc 19 43) .nil)) ((fun w=>Jbb P Q G H H hc3 hP hQ hH w))
  ·exact fun _=>Jm _ 35 _ _ [.const (.int .u64 1)] _ _ _ _ _ _ _ (by rfl) Try.func35 (by kernel_rfl) (by rfl) (by rfl) (wc 22 46 22 (kc 22 46)) (.cons (Je _) .nil) ((fun w=>Xn 1 (by decide) w))
  ·exact fun _=>Jm _ 35 _ _ [.const (.int .u64 1)] _ _ _ _ _ _ _ (by rfl) Try.func35 (by kernel_rfl) (by rfl) (by rfl) (wc 28 52 28 (kc 28 52)) (.cons (Je _) .nil) ((fun w=>Xn 1 (by decide) w))
 intro gs rs a w hgs hrs F HM HBW HR HO HT
 obtain rfl:=nl0 rs hrs
 obtain rfl:=nl0 gs hgs
 clear hrs hgs HR HBW HO
 clear HT
 refine Kq (i:=34) (d:=2) (x:=.tmp 57) (v:=.bool false) F ((HM.subl (by first | exact List.Sublist.refl _ | (repeat (first | exact List.Sublist.refl _ | refine List.Sublist.cons_cons _ ?_ | refine List.Sublist.cons _ ?_))))) (by kernel_rfl) (by rfl) (by rfl) (F.ev rfl) fun a F=>?_
 refine Ui (by kernel_rfl) ?_ _
 refine Kgq ?_
 refine wp_ret ?_
 repeat (first | refine Jv ?_ | refine Jp ?_)
 exact Kv F HM (Kt F rfl (s:=2) rfl)

set_option maxRecDepth 100000 in
set_option maxHeartbeats 800000 in
theorem good_t (P Q G H:Nat) (hP:P<2^256) (hQ:Q<2^256) (hG:G<2^256) (hH:H<2^256) (w0:World) (hb0:decide ((32:Int)<(Go.bitLen P:Nat))=false) (hb1:decide ((31:Int)<(Go.bitLen Q:Nat))=false) (hb2:decide (wd P 0≠(2*wd Q 0%18446744073709551616+1)%18446744073709551616)=false) (hc0:smallB (wd P 0)=true) (hc1:smallB (wd Q 0)=true) (hc2:inB P Q G=true) (hc3:inB P Q H=true) (hc4:decide (G=1)=false) (hc5:decide (H=1)=false):Calls Try.prog 18 #[grp P Q G H] w0 fun e w'=>e=.returned (.bool true)∧Below w0.heap.size w0 w':=by
 refine Kc (args:=[grp P Q G H]) Try.func18 rfl Try.ntmps18 (by rfl) fun a F HM=>?_
 refine Kgr ?_
 refine Jn F HM (Ja rfl _) rfl (by rfl) (Kn (F.ev rfl)) fun a w gg F HM=>?_
 refine lxv (.bool false) F (Jg rfl) fun a F=>?_
 refine Jf ?_
 refine Kgr ?_
 refine lxv (.pointer (some ⟨gg,0,none⟩)) F (Kk (F.ev rfl)) fun a F=>?_
 refine lxv (num P) F (Us (F.ev rfl) (HM.get 0 rfl)) fun a F=>?_
 refine Jr F (Ja rfl _) rfl (by rfl) (Ji Try.func25 (by kernel_rfl) (by rfl) (.cons (F.ev rfl) .nil) _) ((fun w=>Uc P hP w) _) fun a w z F=>?_
 replace HM:=HM.on z
 clear z
 refine lxv (.bool false) F (Uk (m:=(Go.bitLen P:Nat)) hb0 (F.ev rfl) rfl) fun a F=>?_
 refine lxv (.bool false) F (Jc (F.ev rfl)) fun a F=>?_
 refine lxw 7 false (.pointer (some ⟨gg,4,none⟩)) F (Kh (F.ev rfl)) fun a F=>?_
 refine lxw 7 false (num Q) F (Va (F.ev rfl) (HM.get 0 rfl)) fun a F=>?_
 refine Jr F (F.want (t:=7) (c:=false) rfl rfl rfl (by rfl) rfl) rfl (by rfl) (Ji Try.func25 (by kernel_rfl) (by rfl) (.cons (F.ev rfl) .nil) _) ((fun w=>Uc Q hQ w) _) fun a w z F=>?_
 replace HM:=HM.on z
 clear z
 refine lxw 7 false (.bool false) F (Uk (m:=(Go.bitLen Q:Nat)) hb1 (F.ev rfl) rfl) fun a F=>?_
 refine lxv (.bool false) F (Jt (b:=false) (r:=.bool false) (F.ev rfl) rfl (F.ev rfl) rfl) fun a F=>?_
 refine lxv (.bool false) F (Jc (F.ev rfl)) fun a F=>?_
 refine lxw 13 false (.pointer (some ⟨gg,0,none⟩)) F (Kk (F.ev rfl)) fun a F=>?_
 refine lxw 13 false (.pointer (some ⟨gg,0,none⟩)) F (Ky (F.ev rfl) rfl) fun a F=>?_
 refine lxw 13 false (.int .u64 (wd P 0)) F (Kx (F.ev rfl) (HM.get 0 rfl) rfl) fun a F=>?_
 refine lxw 13 false (.pointer (some ⟨gg,4,none⟩)) F (Kh (F.ev rfl)) fun a F=>?_
 refine lxw 13 false (.pointer (some ⟨gg,4,none⟩)) F (Ky (F.ev rfl) rfl) fun a F=>?_
 refine lxw 13 false (.int .u64 (wd Q 0)) F (Kx (F.ev rfl) (HM.get 0 rfl) rfl) fun a F=>?_
 refine lxw 13 false (.int .u64 ((2*wd Q 0%18446744073709551616:Nat):Int)) F (Ww (Wt _ _) rfl rfl (F.ev rfl)) fun a F=>?_
 refine lxw 13 false (.int .u64 (((2*wd Q 0%18446744073709551616+1)%18446744073709551616:Nat):Int)) F (Xw (Nat.mod_lt _ (by decide)) rfl (F.ev rfl) rfl) fun a F=>?_
 refine lxw 13 false (.bool false) F (Jbt hb2 (F.ev rfl) (F.ev rfl)) fun a F=>?_
 refine lxv (.bool false) F (Jt (b:=false) (r:=.bool false) (F.ev rfl) rfl (F.ev rfl) rfl) fun a F=>?_
 refine Jf ?_
 refine Kgq ?_
 refine wp_cond_false (F.ev rfl) ?_
 refine Kgq ?_
 refine Ks (S:=fun w'=>Mem _ _ w' [(gg,26,gcs P Q G H)]) HM (fun _ h=>h) (by kernel_rfl) fun w HM HBW=>?_
 clear HBW
 try simp only [List.append_eq,List.cons_append,List.nil_append]
 refine Kw [⟨0,24,[],.val (.pointer (some ⟨gg,0,none⟩)),true⟩,
   ⟨1,25,[0],.val (.pointer (some ⟨gg,0,none⟩)),true⟩,
   ⟨2,26,[1],.val (.int .u64 (wd P 0)),true⟩,
   ⟨3,27,[2],.val (.bool true),false⟩,
   ⟨4,28,[3],.val (.bool true),true⟩,
   ⟨5,29,[4],.val (.pointer (some ⟨gg,4,none⟩)),true⟩,
   ⟨6,30,[4,5],.val (.pointer (some ⟨gg,4,none⟩)),true⟩,
   ⟨7,31,[4,6],.val (.int .u64 (wd Q 0)),true⟩,
   ⟨8,32,[4,7],.val (.bool true),false⟩,
   ⟨9,33,[4,8],.val (.bool true),true⟩,
   ⟨10,34,[9],.val (.bool true),true⟩,
   ⟨11,35,[10],.val (grp P Q G H),true⟩,
   ⟨12,36,[10,11],.val (.pointer (some ⟨gg,8,none⟩)),true⟩,
   ⟨13,37,[10,12],.val (num G),true⟩,
   ⟨14,38,[10,11,13],.val (.bool true),false⟩,
   ⟨15,39,[10,14],.val (.bool true),true⟩,
   ⟨16,40,[15],.val (.bool true),true⟩,
   ⟨17,41,[16],.val (grp P Q G H),true⟩,
   ⟨18,42,[16,17],.val (.pointer (some ⟨gg,12,none⟩)),true⟩,
   ⟨19,43,[16,18],.val (num H),true⟩,
   ⟨20,44,[16,17,19],.val (.bool true),false⟩,
   ⟨21,45,[16,20],.val (.bool true),true⟩,
   ⟨22,46,[21],.val (.bool true),true⟩,
   ⟨23,47,[22],.val (.pointer (some ⟨gg,8,none⟩)),true⟩,
   ⟨24,48,[22,23],.val (num G),true⟩,
   ⟨25,49,[22,24],.val (num 1),false⟩,
   ⟨26,50,[22,24,25],.val (.bool true),true⟩,
   ⟨27,51,[22,26],.val (.bool true),true⟩,
   ⟨28,52,[27],.val (.bool true),true⟩,
   ⟨29,53,[28],.val (.pointer (some ⟨gg,12,none⟩)),true⟩,
   ⟨30,54,[28,29],.val (num H),true⟩,
   ⟨31,55,[28,30],.val (num 1),false⟩,
   ⟨32,56,[28,30,31],.val (.bool true),true⟩,
   ⟨33,57,[28,32],.val (.bool true),true⟩] 1 _ F HM (fun _ h=>h.subl (by first | exact List.Sublist.refl _ | (repeat (first | exact List.Sublist.refl _ | refine List.Sublist.cons_cons _ ?_ | refine List.Sublist.cons _ ?_)))) (by kernel_rfl) (by rfl) ?_ ?_ ?_ ?_ ?_ ?_ ?_
 ·kernel_rfl
 ·exact of_decide_eq_true (by kernel_rfl)
 ·(repeat refine all_cons ⟨_,by rfl,by rfl⟩ ?_);exact Jj
 ·kernel_rfl
 ·(repeat (refine all_cons ?_ ?_;rotate_left));exact Jj
  all_goals try exact Jq _ (by rfl)
  ·exact Ug _ _ _ _ _ _ _ (by rfl) (by rfl) Jh (fun ρ w kn hs=>Kk (kn _ _ (F.old (by rfl) rfl)))
  ·exact crS (fun ρ w kn hs=>Ky (kn _ _ (kc 0 24)) (kn _ _ (Je _)))
  ·exact crS (fun ρ w kn hs=>Kx (kn _ _ (kc 1 25)) (hs.get 0 rfl) rfl)
  ·exact crS (fun ρ w kn hs=>Jc (kn _ _ (kc 3 27)))
  ·exact Ug _ _ _ _ _ _ _ (by rfl) (by rfl) (wc 4 28 4 (kc 4 28)) (fun ρ w kn hs=>Kh (kn _ _ (F.old (by rfl) rfl)))
  ·exact Ug _ _ _ _ _ _ _ (by rfl) (by rfl) (wc 4 28 4 (kc 4 28)) (fun ρ w kn hs=>Ky (kn _ _ (kc 5 29)) (kn _ _ (Je _)))
  ·exact Ug _ _ _ _ _ _ _ (by rfl) (by rfl) (wc 4 28 4 (kc 4 28)) (fun ρ w kn hs=>Kx (kn _ _ (kc 6 30)) (hs.get 0 rfl) rfl)
  ·exact crS (fun ρ w kn hs=>Jt (b:=true) (r:=.bool true) (kn _ _ (kc 4 28)) (kn _ _ (kc 8 32)) (kn _ _ (Je _)) rfl)
  ·exact crS (fun ρ w kn hs=>Jc (kn _ _ (kc 9 33)))
  ·exact Ug _ _ _ _ _ _ _ (by rfl) (by rfl) (wc 10 34 10 (kc 10 34)) (fun ρ w kn hs=>Jy (kn _ _ (F.old (by rfl) rfl)) (hs.get 0 rfl))
  ·exact Ug _ _ _ _ _ _ _ (by rfl) (by rfl) (wc 10 34 10 (kc 10 34)) (fun ρ w kn hs=>Vq (kn _ _ (F.old (by rfl) rfl)))
  ·exact Ug _ _ _ _ _ _ _ (by rfl) (by rfl) (wc 10 34 10 (kc 10 34)) (fun ρ w kn hs=>We (kn _ _ (kc 12 36)) (hs.get 0 rfl))
  ·exact crS (fun ρ w kn hs=>Jt (b:=true) (r:=.bool true) (kn _ _ (kc 10 34)) (kn _ _ (kc 14 38)) (kn _ _ (Je _)) rfl)
  ·exact crS (fun ρ w kn hs=>Jc (kn _ _ (kc 15 39)))
  ·exact Ug _ _ _ _ _ _ _ (by rfl) (by rfl) (wc 16 40 16 (kc 16 40)) (fun ρ w kn hs=>Jy (kn _ _ (F.old (by rfl) rfl)) (hs.get 0 rfl))
  ·exact Ug _ _ _ _ _ _ _ (by rfl) (by rfl) (wc 16 40 16 (kc 16 40)) (fun ρ w kn hs=>Xh (kn _ _ (F.old (by rfl) rfl)))
  ·exact Ug _ _ _ _ _ _ _ (by rfl) (by rfl) (wc 16 40 16 (kc 16 40)) (fun ρ w kn hs=>Jah (kn _ _ (kc 18 42)) (hs.get 0 rfl))
  ·exact crS (fun ρ w kn hs=>Jt (b:=true) (r:=.bool true) (kn _ _ (kc 16 40)) (kn _ _ (kc 20 44)) (kn _ _ (Je _)) rfl)
  ·exact crS (fun ρ w kn hs=>Jc (kn _ _ (kc 21 45)))
  ·exact Ug _ _ _ _ _ _ _ (by rfl) (by rfl) (wc 22 46 22 (kc 22 46)) (fun ρ w kn hs=>Vq (kn _ _ (F.old (by rfl) rfl)))
  ·exact Ug _ _ _ _ _ _ _ (by rfl) (by rfl) (wc 22 46 22 (kc 22 46)) (fun ρ w kn hs=>We (kn _ _ (kc 23 47)) (hs.get 0 rfl))
  ·exact Ug _ _ _ _ _ _ _ (by rfl) (by rfl) (wc 22 46 22 (kc 22 46)) (fun ρ w kn hs=>Jax hG (by decide) hc4 (kn _ _ (kc 24 48)) (kn _ _ (kc 25 49)))
  ·exact crS (fun ρ w kn hs=>Jt (b:=true) (r:=.bool true) (kn _ _ (kc 22 46)) (kn _ _ (kc 26 50)) (kn _ _ (Je _)) rfl)
  ·exact crS (fun ρ w kn hs=>Jc (kn _ _ (kc 27 51)))
  ·exact Ug _ _ _ _ _ _ _ (by rfl) (by rfl) (wc 28 52 28 (kc 28 52)) (fun ρ w kn hs=>Xh (kn _ _ (F.old (by rfl) rfl)))
  ·exact Ug _ _ _ _ _ _ _ (by rfl) (by rfl) (wc 28 52 28 (kc 28 52)) (fun ρ w kn hs=>Jah (kn _ _ (kc 29 53)) (hs.get 0 rfl))
  ·exact Ug _ _ _ _ _ _ _ (by rfl) (by rfl) (wc 28 52 28 (kc 28 52)) (fun ρ w kn hs=>Jax hH (by decide) hc5 (kn _ _ (kc 30 54)) (kn _ _ (kc 31 55)))
  ·exact crS (fun ρ w kn hs=>Jt (b:=true) (r:=.bool true) (kn _ _ (kc 28 52)) (kn _ _ (kc 32 56)) (kn _ _ (Je _)) rfl)
 ·(repeat (refine all_cons ?_ ?_;rotate_left));exact Jj
  all_goals try exact sA
  ·exact fun _=>Jm _ 40 _ _ [.tmp 26] _ _ _ _ _ _ _ (by rfl) Try.func40 (by kernel_rfl) (by rfl) (by rfl) (Jh) (.cons (kc 2 26) .nil) ((fun w=>Uy hc0 (Wt _ _) w))
  ·exact fun _=>Jm _ 40 _ _ [.tmp 31] _ _ _ _ _ _ _ (by rfl) Try.func40 (by kernel_rfl) (by rfl) (by rfl) (wc 4 28 4 (kc 4 28)) (.cons (kc 7 31) .nil) ((fun w=>Uy hc1 (Wt _ _) w))
  ·exact fun _=>Jm _ 41 _ _ [.tmp 35,.tmp 37] _ _ _ _ _ _ _ (by rfl) Try.func41 (by kernel_rfl) (by rfl) (by rfl) (wc 10 34 10 (kc 10 34)) (.cons (kc 11 35) (.cons (kc 13 37) .nil)) ((fun w=>Jbb P Q G H G hc2 hP hQ hG w))
  ·exact fun _=>Jm _ 41 _ _ [.tmp 41,.tmp 43] _ _ _ _ _ _ _ (by rfl) Try.func41 (by kernel_rfl) (by rfl) (by rfl) (wc 16 40 16 (kc 16 40)) (.cons (kc 17 41) (.cons (kc 19 43) .nil)) ((fun w=>Jbb P Q G H H hc3 hP hQ hH w))
  ·exact fun _=>Jm _ 35 _ _ [.const (.int .u64 1)] _ _ _ _ _ _ _ (by rfl) Try.func35 (by kernel_rfl) (by rfl) (by rfl) (wc 22 46 22 (kc 22 46)) (.cons (Je _) .nil) ((fun w=>Xn 1 (by decide) w))
  ·exact fun _=>Jm _ 35 _ _ [.const (.int .u64 1)] _ _ _ _ _ _ _ (by rfl) Try.func35 (by kernel_rfl) (by rfl) (by rfl) (wc 28 52 28 (kc 28 52)) (.cons (Je _) .nil) ((fun w=>Xn 1 (by decide) w))
 intro gs rs a w hgs hrs F HM HBW HR HO HT
 obtain rfl:=nl0 rs hrs
 obtain rfl:=nl0 gs hgs
 clear hrs hgs HR HBW HO
 clear HT
 refine Kq (i:=34) (d:=2) (x:=.tmp 57) (v:=.bool true) F ((HM.subl (by first | exact List.Sublist.refl _ | (repeat (first | exact List.Sublist.refl _ | refine List.Sublist.cons_cons _ ?_ | refine List.Sublist.cons _ ?_))))) (by kernel_rfl) (by rfl) (by rfl) (F.ev rfl) fun a F=>?_
 refine Ui (by kernel_rfl) ?_ _
 refine Kgq ?_
 refine wp_ret ?_
 repeat (first | refine Jv ?_ | refine Jp ?_)
 exact Kv F HM (Kt F rfl (s:=2) rfl)

noncomputable def goodB (P Q G H:Nat):Bool:=!decide ((32:Int)<(Go.bitLen P:Nat)) && !decide ((31:Int)<(Go.bitLen Q:Nat)) && !decide (wd P 0≠(2*wd Q 0%18446744073709551616+1)%18446744073709551616) && smallB (wd P 0) && smallB (wd Q 0) && inB P Q G && inB P Q H && !decide (G=1) && !decide (H=1)
theorem good_any (P Q G H:Nat) (hP:P<2^256) (hQ:Q<2^256) (hG:G<2^256) (hH:H<2^256) (w0:World):Calls Try.prog 18 #[grp P Q G H] w0 fun e w'=>e=.returned (.bool (goodB P Q G H))∧Below w0.heap.size w0 w':=by
 unfold goodB
 rcases hb0:decide ((32:Int)<(Go.bitLen P:Nat)) with _ | _
 ·rcases hb1:decide ((31:Int)<(Go.bitLen Q:Nat)) with _ | _
  ·rcases hb2:decide (wd P 0≠(2*wd Q 0%18446744073709551616+1)%18446744073709551616) with _ | _
   ·rcases hc0:smallB (wd P 0) with _ | _
    ·exact good_b0 P Q G H hP hQ hG hH w0 hb0 hb1 hb2 hc0
    ·rcases hc1:smallB (wd Q 0) with _ | _
     ·exact good_b1 P Q G H hP hQ hG hH w0 hb0 hb1 hb2 hc0 hc1
     ·rcases hc2:inB P Q G with _ | _
      ·exact good_b2 P Q G H hP hQ hG hH w0 hb0 hb1 hb2 hc0 hc1 hc2
      ·rcases hc3:inB P Q H with _ | _
       ·exact good_b3 P Q G H hP hQ hG hH w0 hb0 hb1 hb2 hc0 hc1 hc2 hc3
       ·rcases hc4:decide (G=1) with _ | _
        ·rcases hc5:decide (H=1) with _ | _
         ·exact good_t P Q G H hP hQ hG hH w0 hb0 hb1 hb2 hc0 hc1 hc2 hc3 hc4 hc5
         ·exact good_b5 P Q G H hP hQ hG hH w0 hb0 hb1 hb2 hc0 hc1 hc2 hc3 hc4 hc5
        ·exact good_b4 P Q G H hP hQ hG hH w0 hb0 hb1 hb2 hc0 hc1 hc2 hc3 hc4
   ·exact good_a2 P Q G H hP hQ hG hH w0 hb0 hb1 hb2
  ·exact good_a1 P Q G H hP hQ hG hH w0 hb0 hb1
 ·exact good_a0 P Q G H hP hQ hG hH w0 hb0
theorem Jad {b:Bool} (P Q G H:Nat) (h:goodB P Q G H=b) (hP:P<2^256) (hQ:Q<2^256) (hG:G<2^256) (hH:H<2^256) (w0:World):Calls Try.prog 18 #[grp P Q G H] w0 fun e w'=>e=.returned (.bool b)∧Below w0.heap.size w0 w':=by
 subst h;exact good_any P Q G H hP hQ hG hH w0
set_option maxRecDepth 100000 in
set_option maxHeartbeats 800000 in
theorem power_any (P Q G H X:Nat) (hP:P<2^256) (hG:G<2^256) (hX:X<2^256) (hm:Jbo P G=true) (w0:World):Calls Try.prog 19 #[grp P Q G H,num X] w0 fun e w'=>e=.returned (num (G^X%P))∧Below w0.heap.size w0 w':=by
 refine Kc (args:=[grp P Q G H,num X]) Try.func19 rfl Try.ntmps19 (by rfl) fun a F HM=>?_
 refine Kgr ?_
 refine Jn F HM (Ja rfl _) rfl (by rfl) (Kn (F.ev rfl)) fun a w gg F HM=>?_
 refine Jn F HM (Ja rfl _) rfl (by rfl) (Wp (F.ev rfl)) fun a w gn F HM=>?_
 refine Jn F HM (Ja rfl _) rfl (by rfl) (Kd) fun a w go F HM=>?_
 refine Jf ?_
 refine Kgr ?_
 refine lxv (grp P Q G H) F (Jy (F.ev rfl) (HM.get 2 rfl)) fun a F=>?_
 refine lxv (.pointer (some ⟨gg,8,none⟩)) F (Vq (F.ev rfl)) fun a F=>?_
 refine lxv (num G) F (We (F.ev rfl) (HM.get 2 rfl)) fun a F=>?_
 refine lxv (num X) F (Kg (F.ev rfl) (HM.get 1 rfl)) fun a F=>?_
 refine Jr F (Ja rfl _) rfl (by rfl) (Ji Try.func42 (by kernel_rfl) (by rfl) (.cons (F.ev rfl) (.cons (F.ev rfl) (.cons (F.ev rfl) .nil))) _) ((Jcb P Q G H G X hP hG hX hm) _) fun a w z F=>?_
 replace HM:=HM.on z
 clear z
 refine lxv (.tuple #[num ((G^X%P)),.int .i64 0]) F (Jc (F.ev rfl)) fun a F=>?_
 refine lxv (num ((G^X%P))) F (Jk (F.ev rfl) rfl) fun a F=>?_
 refine lxv (.int .i64 0) F (Jk (F.ev rfl) rfl) fun a F=>?_
 refine Jn F HM (Ja rfl _) rfl (by rfl) (Kd) fun a w gx F HM=>?_
 refine Ju F HM (Ja rfl _) rfl (k:=0) rfl (Ka (F.ev rfl) (F.ev rfl) (HM.get 0 rfl)) (M2:=[(gx,24,ncs ((G^X%P))),(go,24,ncs 0),(gn,24,ncs X),(gg,26,gcs P Q G H)]) (rfl) fun w HM=>?_
 refine lxv (.int .i64 0) F (Jg (F.ev rfl)) fun a F=>?_
 refine Jf ?_
 refine Kgr ?_
 refine lxv (num ((G^X%P))) F (Kg (F.ev rfl) (HM.get 0 rfl)) fun a F=>?_
 refine Ju F HM (Ja rfl _) rfl (k:=1) rfl (Ka (F.ev rfl) (F.ev rfl) (HM.get 1 rfl)) (M2:=[(gx,24,ncs ((G^X%P))),(go,24,ncs ((G^X%P))),(gn,24,ncs X),(gg,26,gcs P Q G H)]) (rfl) fun w HM=>?_
 refine Jf ?_
 refine Kgq ?_
 refine wp_ret ?_
 repeat (first | refine Jv ?_ | refine Jp ?_)
 exact Kv F HM (Jfb F (s:=4) rfl rfl (HM.get 1 rfl))

set_option maxRecDepth 100000 in
set_option maxHeartbeats 800000 in
theorem fine_ttt (P Q G H m capp:Nat) (pp:Option Addr) (ps:List Nat) (hP:P<2^256) (hQ:Q<2^256) (hG:G<2^256) (hH:H<2^256) (w0:World) (rp:RN w0.heap.size w0 pp m capp ps) (ha:atB Q 0 ps=true) (hgd:goodB P Q G H=true) (h7:decide (7<wd Q 0)=true):Calls Try.prog 7 #[grp P Q G H,.slice pp m capp] w0 fun e w'=>e=.returned (.bool true)∧Below w0.heap.size w0 w':=by
 refine Kc (args:=[grp P Q G H,.slice pp m capp]) Try.func7 rfl Try.ntmps7 (by rfl) fun a F HM=>?_
 refine Kgr ?_
 refine Jn F HM (Ja rfl _) rfl (by rfl) (Kn (F.ev rfl)) fun a w gg F HM=>?_
 refine lxv (.bool false) F (Jg rfl) fun a F=>?_
 refine Jf ?_
 refine Kgr ?_
 refine lxv (grp P Q G H) F (Jy (F.ev rfl) (HM.get 0 rfl)) fun a F=>?_
 refine lxv (.slice pp m capp) F (Jc (F.ev rfl)) fun a F=>?_
 refine lxv (num 0) F (Ut) fun a F=>?_
 refine Jr F (Ja rfl _) rfl (by rfl) (Ji Try.func17 (by kernel_rfl) (by rfl) (.cons (F.ev rfl) (.cons (F.ev rfl) (.cons (F.ev rfl) .nil))) _) (Jcx P Q G H 0 m capp pp ps _ hQ ha (rp.call HM.bel HM.bel.size)) fun a w z F=>?_
 replace HM:=HM.on z
 clear z
 refine lxv (.tuple #[num (Ki Q (evZ (zs ps) ((0:Nat):Int))),.int .i64 0]) F (Jc (F.ev rfl)) fun a F=>?_
 refine lxv (num (Ki Q (evZ (zs ps) ((0:Nat):Int)))) F (Jk (F.ev rfl) rfl) fun a F=>?_
 refine lxv (.int .i64 0) F (Jk (F.ev rfl) rfl) fun a F=>?_
 refine Jn F HM (Ja rfl _) rfl (by rfl) (Kd) fun a w gv F HM=>?_
 refine Ju F HM (Ja rfl _) rfl (k:=0) rfl (Ka (F.ev rfl) (F.ev rfl) (HM.get 0 rfl)) (M2:=[(gv,24,ncs (Ki Q (evZ (zs ps) ((0:Nat):Int)))),(gg,26,gcs P Q G H)]) (rfl) fun w HM=>?_
 refine lxv (.int .i64 0) F (Jg (F.ev rfl)) fun a F=>?_
 refine Jf ?_
 refine Kgr ?_
 refine lxv (grp P Q G H) F (Jy (F.ev rfl) (HM.get 1 rfl)) fun a F=>?_
 refine Jr F (Ja rfl _) rfl (by rfl) (Ji Try.func18 (by kernel_rfl) (by rfl) (.cons (F.ev rfl) .nil) _) (Jad P Q G H hgd hP hQ hG hH _) fun a w z F=>?_
 replace HM:=HM.on z
 clear z
 refine lxv (.bool true) F (Jc (F.ev rfl)) fun a F=>?_
 refine lxw 16 true (.pointer (some ⟨gg,4,none⟩)) F (Kh (F.ev rfl)) fun a F=>?_
 refine lxw 16 true (.pointer (some ⟨gg,4,none⟩)) F (Ky (F.ev rfl) rfl) fun a F=>?_
 refine lxw 16 true (.int .u64 (wd Q 0)) F (Kx (F.ev rfl) (HM.get 1 rfl) rfl) fun a F=>?_
 refine lxw 16 true (.bool true) F (Jex h7 (F.ev rfl) rfl) fun a F=>?_
 refine lxv (.bool true) F (Jt (b:=true) (r:=.bool true) (F.ev rfl) (F.ev rfl) rfl rfl) fun a F=>?_
 refine lxv (.bool true) F (Jc (F.ev rfl)) fun a F=>?_
 refine lxw 22 true (.int .i64 0) F (Jc (F.ev rfl)) fun a F=>?_
 refine lxw 22 true (.bool true) F (Ua (u:=.int .i64 0) (v:=.int .i64 0) (fun ρ hx hy=>by simp only [execOp,hx,hy];simp [go_sem]) (F.ev rfl) rfl) fun a F=>?_
 refine lxv (.bool true) F (Jt (b:=true) (r:=.bool true) (F.ev rfl) (F.ev rfl) rfl rfl) fun a F=>?_
 refine lxv (.bool true) F (Jg (F.ev rfl)) fun a F=>?_
 refine Jf ?_
 refine Kgq ?_
 refine wp_ret ?_
 repeat (first | refine Jv ?_ | refine Jp ?_)
 exact Kv F HM (Kt F rfl (s:=4) rfl)

set_option maxRecDepth 100000 in
set_option maxHeartbeats 800000 in
theorem fine_ttf (P Q G H m capp:Nat) (pp:Option Addr) (ps:List Nat) (hP:P<2^256) (hQ:Q<2^256) (hG:G<2^256) (hH:H<2^256) (w0:World) (rp:RN w0.heap.size w0 pp m capp ps) (ha:atB Q 0 ps=true) (hgd:goodB P Q G H=true) (h7:decide (7<wd Q 0)=false):Calls Try.prog 7 #[grp P Q G H,.slice pp m capp] w0 fun e w'=>e=.returned (.bool false)∧Below w0.heap.size w0 w':=by
 refine Kc (args:=[grp P Q G H,.slice pp m capp]) Try.func7 rfl Try.ntmps7 (by rfl) fun a F HM=>?_
 refine Kgr ?_
 refine Jn F HM (Ja rfl _) rfl (by rfl) (Kn (F.ev rfl)) fun a w gg F HM=>?_
 refine lxv (.bool false) F (Jg rfl) fun a F=>?_
 refine Jf ?_
 refine Kgr ?_
 refine lxv (grp P Q G H) F (Jy (F.ev rfl) (HM.get 0 rfl)) fun a F=>?_
 refine lxv (.slice pp m capp) F (Jc (F.ev rfl)) fun a F=>?_
 refine lxv (num 0) F (Ut) fun a F=>?_
 refine Jr F (Ja rfl _) rfl (by rfl) (Ji Try.func17 (by kernel_rfl) (by rfl) (.cons (F.ev rfl) (.cons (F.ev rfl) (.cons (F.ev rfl) .nil))) _) (Jcx P Q G H 0 m capp pp ps _ hQ ha (rp.call HM.bel HM.bel.size)) fun a w z F=>?_
 replace HM:=HM.on z
 clear z
 refine lxv (.tuple #[num (Ki Q (evZ (zs ps) ((0:Nat):Int))),.int .i64 0]) F (Jc (F.ev rfl)) fun a F=>?_
 refine lxv (num (Ki Q (evZ (zs ps) ((0:Nat):Int)))) F (Jk (F.ev rfl) rfl) fun a F=>?_
 refine lxv (.int .i64 0) F (Jk (F.ev rfl) rfl) fun a F=>?_
 refine Jn F HM (Ja rfl _) rfl (by rfl) (Kd) fun a w gv F HM=>?_
 refine Ju F HM (Ja rfl _) rfl (k:=0) rfl (Ka (F.ev rfl) (F.ev rfl) (HM.get 0 rfl)) (M2:=[(gv,24,ncs (Ki Q (evZ (zs ps) ((0:Nat):Int)))),(gg,26,gcs P Q G H)]) (rfl) fun w HM=>?_
 refine lxv (.int .i64 0) F (Jg (F.ev rfl)) fun a F=>?_
 refine Jf ?_
 refine Kgr ?_
 refine lxv (grp P Q G H) F (Jy (F.ev rfl) (HM.get 1 rfl)) fun a F=>?_
 refine Jr F (Ja rfl _) rfl (by rfl) (Ji Try.func18 (by kernel_rfl) (by rfl) (.cons (F.ev rfl) .nil) _) (Jad P Q G H hgd hP hQ hG hH _) fun a w z F=>?_
 replace HM:=HM.on z
 clear z
 refine lxv (.bool true) F (Jc (F.ev rfl)) fun a F=>?_
 refine lxw 16 true (.pointer (some ⟨gg,4,none⟩)) F (Kh (F.ev rfl)) fun a F=>?_
 refine lxw 16 true (.pointer (some ⟨gg,4,none⟩)) F (Ky (F.ev rfl) rfl) fun a F=>?_
 refine lxw 16 true (.int .u64 (wd Q 0)) F (Kx (F.ev rfl) (HM.get 1 rfl) rfl) fun a F=>?_
 refine lxw 16 true (.bool false) F (Jex h7 (F.ev rfl) rfl) fun a F=>?_
 refine lxv (.bool false) F (Jt (b:=true) (r:=.bool false) (F.ev rfl) (F.ev rfl) rfl rfl) fun a F=>?_
 refine lxv (.bool false) F (Jc (F.ev rfl)) fun a F=>?_
 refine lxp 22 false F fun a F=>?_
 refine lxp 22 false F fun a F=>?_
 refine lxv (.bool false) F (Jt (b:=false) (r:=.bool false) (F.ev rfl) (F.ev rfl) rfl rfl) fun a F=>?_
 refine lxv (.bool false) F (Jg (F.ev rfl)) fun a F=>?_
 refine Jf ?_
 refine Kgq ?_
 refine wp_ret ?_
 repeat (first | refine Jv ?_ | refine Jp ?_)
 exact Kv F HM (Kt F rfl (s:=4) rfl)

set_option maxRecDepth 100000 in
set_option maxHeartbeats 800000 in
theorem fine_tft (P Q G H m capp:Nat) (pp:Option Addr) (ps:List Nat) (hP:P<2^256) (hQ:Q<2^256) (hG:G<2^256) (hH:H<2^256) (w0:World) (rp:RN w0.heap.size w0 pp m capp ps) (ha:atB Q 0 ps=true) (hgd:goodB P Q G H=false) (h7:decide (7<wd Q 0)=true):Calls Try.prog 7 #[grp P Q G H,.slice pp m capp] w0 fun e w'=>e=.returned (.bool false)∧Below w0.heap.size w0 w':=by
 refine Kc (args:=[grp P Q G H,.slice pp m capp]) Try.func7 rfl Try.ntmps7 (by rfl) fun a F HM=>?_
 refine Kgr ?_
 refine Jn F HM (Ja rfl _) rfl (by rfl) (Kn (F.ev rfl)) fun a w gg F HM=>?_
 refine lxv (.bool false) F (Jg rfl) fun a F=>?_
 refine Jf ?_
 refine Kgr ?_
 refine lxv (grp P Q G H) F (Jy (F.ev rfl) (HM.get 0 rfl)) fun a F=>?_
 refine lxv (.slice pp m capp) F (Jc (F.ev rfl)) fun a F=>?_
 refine lxv (num 0) F (Ut) fun a F=>?_
 refine Jr F (Ja rfl _) rfl (by rfl) (Ji Try.func17 (by kernel_rfl) (by rfl) (.cons (F.ev rfl) (.cons (F.ev rfl) (.cons (F.ev rfl) .nil))) _) (Jcx P Q G H 0 m capp pp ps _ hQ ha (rp.call HM.bel HM.bel.size)) fun a w z F=>?_
 replace HM:=HM.on z
 clear z
 refine lxv (.tuple #[num (Ki Q (evZ (zs ps) ((0:Nat):Int))),.int .i64 0]) F (Jc (F.ev rfl)) fun a F=>?_
 refine lxv (num (Ki Q (evZ (zs ps) ((0:Nat):Int)))) F (Jk (F.ev rfl) rfl) fun a F=>?_
 refine lxv (.int .i64 0) F (Jk (F.ev rfl) rfl) fun a F=>?_
 refine Jn F HM (Ja rfl _) rfl (by rfl) (Kd) fun a w gv F HM=>?_
 refine Ju F HM (Ja rfl _) rfl (k:=0) rfl (Ka (F.ev rfl) (F.ev rfl) (HM.get 0 rfl)) (M2:=[(gv,24,ncs (Ki Q (evZ (zs ps) ((0:Nat):Int)))),(gg,26,gcs P Q G H)]) (rfl) fun w HM=>?_
 refine lxv (.int .i64 0) F (Jg (F.ev rfl)) fun a F=>?_
 refine Jf ?_
 refine Kgr ?_
 refine lxv (grp P Q G H) F (Jy (F.ev rfl) (HM.get 1 rfl)) fun a F=>?_
 refine Jr F (Ja rfl _) rfl (by rfl) (Ji Try.func18 (by kernel_rfl) (by rfl) (.cons (F.ev rfl) .nil) _) (Jad P Q G H hgd hP hQ hG hH _) fun a w z F=>?_
 replace HM:=HM.on z
 clear z
 refine lxv (.bool false) F (Jc (F.ev rfl)) fun a F=>?_
 refine lxp 16 false F fun a F=>?_
 refine lxp 16 false F fun a F=>?_
 refine lxp 16 false F fun a F=>?_
 refine lxp 16 false F fun a F=>?_
 refine lxv (.bool false) F (Jt (b:=false) (r:=.bool false) (F.ev rfl) (F.ev rfl) rfl rfl) fun a F=>?_
 refine lxv (.bool false) F (Jc (F.ev rfl)) fun a F=>?_
 refine lxp 22 false F fun a F=>?_
 refine lxp 22 false F fun a F=>?_
 refine lxv (.bool false) F (Jt (b:=false) (r:=.bool false) (F.ev rfl) (F.ev rfl) rfl rfl) fun a F=>?_
 refine lxv (.bool false) F (Jg (F.ev rfl)) fun a F=>?_
 refine Jf ?_
 refine Kgq ?_
 refine wp_ret ?_
 repeat (first | refine Jv ?_ | refine Jp ?_)
 exact Kv F HM (Kt F rfl (s:=4) rfl)

set_option maxRecDepth 100000 in
set_option maxHeartbeats 800000 in
theorem fine_tff (P Q G H m capp:Nat) (pp:Option Addr) (ps:List Nat) (hP:P<2^256) (hQ:Q<2^256) (hG:G<2^256) (hH:H<2^256) (w0:World) (rp:RN w0.heap.size w0 pp m capp ps) (ha:atB Q 0 ps=true) (hgd:goodB P Q G H=false) (h7:decide (7<wd Q 0)=false):Calls Try.prog 7 #[grp P Q G H,.slice pp m capp] w0 fun e w'=>e=.returned (.bool false)∧Below w0.heap.size w0 w':=by
 refine Kc (args:=[grp P Q G H,.slice pp m capp]) Try.func7 rfl Try.ntmps7 (by rfl) fun a F HM=>?_
 refine Kgr ?_
 refine Jn F HM (Ja rfl _) rfl (by rfl) (Kn (F.ev rfl)) fun a w gg F HM=>?_
 refine lxv (.bool false) F (Jg rfl) fun a F=>?_
 refine Jf ?_
 refine Kgr ?_
 refine lxv (grp P Q G H) F (Jy (F.ev rfl) (HM.get 0 rfl)) fun a F=>?_
 refine lxv (.slice pp m capp) F (Jc (F.ev rfl)) fun a F=>?_
 refine lxv (num 0) F (Ut) fun a F=>?_
 refine Jr F (Ja rfl _) rfl (by rfl) (Ji Try.func17 (by kernel_rfl) (by rfl) (.cons (F.ev rfl) (.cons (F.ev rfl) (.cons (F.ev rfl) .nil))) _) (Jcx P Q G H 0 m capp pp ps _ hQ ha (rp.call HM.bel HM.bel.size)) fun a w z F=>?_
 replace HM:=HM.on z
 clear z
 refine lxv (.tuple #[num (Ki Q (evZ (zs ps) ((0:Nat):Int))),.int .i64 0]) F (Jc (F.ev rfl)) fun a F=>?_
 refine lxv (num (Ki Q (evZ (zs ps) ((0:Nat):Int)))) F (Jk (F.ev rfl) rfl) fun a F=>?_
 refine lxv (.int .i64 0) F (Jk (F.ev rfl) rfl) fun a F=>?_
 refine Jn F HM (Ja rfl _) rfl (by rfl) (Kd) fun a w gv F HM=>?_
 refine Ju F HM (Ja rfl _) rfl (k:=0) rfl (Ka (F.ev rfl) (F.ev rfl) (HM.get 0 rfl)) (M2:=[(gv,24,ncs (Ki Q (evZ (zs ps) ((0:Nat):Int)))),(gg,26,gcs P Q G H)]) (rfl) fun w HM=>?_
 refine lxv (.int .i64 0) F (Jg (F.ev rfl)) fun a F=>?_
 refine Jf ?_
 refine Kgr ?_
 refine lxv (grp P Q G H) F (Jy (F.ev rfl) (HM.get 1 rfl)) fun a F=>?_
 refine Jr F (Ja rfl _) rfl (by rfl) (Ji Try.func18 (by kernel_rfl) (by rfl) (.cons (F.ev rfl) .nil) _) (Jad P Q G H hgd hP hQ hG hH _) fun a w z F=>?_
 replace HM:=HM.on z
 clear z
 refine lxv (.bool false) F (Jc (F.ev rfl)) fun a F=>?_
 refine lxp 16 false F fun a F=>?_
 refine lxp 16 false F fun a F=>?_
 refine lxp 16 false F fun a F=>?_
 refine lxp 16 false F fun a F=>?_
 refine lxv (.bool false) F (Jt (b:=false) (r:=.bool false) (F.ev rfl) (F.ev rfl) rfl rfl) fun a F=>?_
 refine lxv (.bool false) F (Jc (F.ev rfl)) fun a F=>?_
 refine lxp 22 false F fun a F=>?_
 refine lxp 22 false F fun a F=>?_
 refine lxv (.bool false) F (Jt (b:=false) (r:=.bool false) (F.ev rfl) (F.ev rfl) rfl rfl) fun a F=>?_
 refine lxv (.bool false) F (Jg (F.ev rfl)) fun a F=>?_
 refine Jf ?_
 refine Kgq ?_
 refine wp_ret ?_
 repeat (first | refine Jv ?_ | refine Jp ?_)
 exact Kv F HM (Kt F rfl (s:=4) rfl)

set_option maxRecDepth 100000 in
set_option maxHeartbeats 800000 in
theorem fine_ftt (P Q G H m capp:Nat) (pp:Option Addr) (ps:List Nat) (hP:P<2^256) (hQ:Q<2^256) (hG:G<2^256) (hH:H<2^256) (w0:World) (rp:RN w0.heap.size w0 pp m capp ps) (ha:atB Q 0 ps=false) (hgd:goodB P Q G H=true) (h7:decide (7<wd Q 0)=true):Calls Try.prog 7 #[grp P Q G H,.slice pp m capp] w0 fun e w'=>e=.returned (.bool false)∧Below w0.heap.size w0 w':=by
 refine Kc (args:=[grp P Q G H,.slice pp m capp]) Try.func7 rfl Try.ntmps7 (by rfl) fun a F HM=>?_
 refine Kgr ?_
 refine Jn F HM (Ja rfl _) rfl (by rfl) (Kn (F.ev rfl)) fun a w gg F HM=>?_
 refine lxv (.bool false) F (Jg rfl) fun a F=>?_
 refine Jf ?_
 refine Kgr ?_
 refine lxv (grp P Q G H) F (Jy (F.ev rfl) (HM.get 0 rfl)) fun a F=>?_
 refine lxv (.slice pp m capp) F (Jc (F.ev rfl)) fun a F=>?_
 refine lxv (num 0) F (Ut) fun a F=>?_
 refine Jr F (Ja rfl _) rfl (by rfl) (Ji Try.func17 (by kernel_rfl) (by rfl) (.cons (F.ev rfl) (.cons (F.ev rfl) (.cons (F.ev rfl) .nil))) _) (Jfp P Q G H 0 m capp pp ps _ hQ (by decide) ha (rp.call HM.bel HM.bel.size)) fun a w z F=>?_
 replace HM:=HM.on z
 clear z
 refine lxv (.tuple #[num 0,.int .i64 1]) F (Jc (F.ev rfl)) fun a F=>?_
 refine lxv (num 0) F (Jk (F.ev rfl) rfl) fun a F=>?_
 refine lxv (.int .i64 1) F (Jk (F.ev rfl) rfl) fun a F=>?_
 refine Jn F HM (Ja rfl _) rfl (by rfl) (Kd) fun a w gv F HM=>?_
 refine Ju F HM (Ja rfl _) rfl (k:=0) rfl (Ka (F.ev rfl) (F.ev rfl) (HM.get 0 rfl)) (M2:=[(gv,24,ncs 0),(gg,26,gcs P Q G H)]) (rfl) fun w HM=>?_
 refine lxv (.int .i64 1) F (Jg (F.ev rfl)) fun a F=>?_
 refine Jf ?_
 refine Kgr ?_
 refine lxv (grp P Q G H) F (Jy (F.ev rfl) (HM.get 1 rfl)) fun a F=>?_
 refine Jr F (Ja rfl _) rfl (by rfl) (Ji Try.func18 (by kernel_rfl) (by rfl) (.cons (F.ev rfl) .nil) _) (Jad P Q G H hgd hP hQ hG hH _) fun a w z F=>?_
 replace HM:=HM.on z
 clear z
 refine lxv (.bool true) F (Jc (F.ev rfl)) fun a F=>?_
 refine lxw 16 true (.pointer (some ⟨gg,4,none⟩)) F (Kh (F.ev rfl)) fun a F=>?_
 refine lxw 16 true (.pointer (some ⟨gg,4,none⟩)) F (Ky (F.ev rfl) rfl) fun a F=>?_
 refine lxw 16 true (.int .u64 (wd Q 0)) F (Kx (F.ev rfl) (HM.get 1 rfl) rfl) fun a F=>?_
 refine lxw 16 true (.bool true) F (Jex h7 (F.ev rfl) rfl) fun a F=>?_
 refine lxv (.bool true) F (Jt (b:=true) (r:=.bool true) (F.ev rfl) (F.ev rfl) rfl rfl) fun a F=>?_
 refine lxv (.bool true) F (Jc (F.ev rfl)) fun a F=>?_
 refine lxw 22 true (.int .i64 1) F (Jc (F.ev rfl)) fun a F=>?_
 refine lxw 22 true (.bool false) F (Ua (u:=.int .i64 1) (v:=.int .i64 0) (fun ρ hx hy=>by simp only [execOp,hx,hy];simp [go_sem]) (F.ev rfl) rfl) fun a F=>?_
 refine lxv (.bool false) F (Jt (b:=true) (r:=.bool false) (F.ev rfl) (F.ev rfl) rfl rfl) fun a F=>?_
 refine lxv (.bool false) F (Jg (F.ev rfl)) fun a F=>?_
 refine Jf ?_
 refine Kgq ?_
 refine wp_ret ?_
 repeat (first | refine Jv ?_ | refine Jp ?_)
 exact Kv F HM (Kt F rfl (s:=4) rfl)

set_option maxRecDepth 100000 in
set_option maxHeartbeats 800000 in
theorem fine_ftf (P Q G H m capp:Nat) (pp:Option Addr) (ps:List Nat) (hP:P<2^256) (hQ:Q<2^256) (hG:G<2^256) (hH:H<2^256) (w0:World) (rp:RN w0.heap.size w0 pp m capp ps) (ha:atB Q 0 ps=false) (hgd:goodB P Q G H=true) (h7:decide (7<wd Q 0)=false):Calls Try.prog 7 #[grp P Q G H,.slice pp m capp] w0 fun e w'=>e=.returned (.bool false)∧Below w0.heap.size w0 w':=by
 refine Kc (args:=[grp P Q G H,.slice pp m capp]) Try.func7 rfl Try.ntmps7 (by rfl) fun a F HM=>?_
 refine Kgr ?_
 refine Jn F HM (Ja rfl _) rfl (by rfl) (Kn (F.ev rfl)) fun a w gg F HM=>?_
 refine lxv (.bool false) F (Jg rfl) fun a F=>?_
 refine Jf ?_
 refine Kgr ?_
 refine lxv (grp P Q G H) F (Jy (F.ev rfl) (HM.get 0 rfl)) fun a F=>?_
 refine lxv (.slice pp m capp) F (Jc (F.ev rfl)) fun a F=>?_
 refine lxv (num 0) F (Ut) fun a F=>?_
 refine Jr F (Ja rfl _) rfl (by rfl) (Ji Try.func17 (by kernel_rfl) (by rfl) (.cons (F.ev rfl) (.cons (F.ev rfl) (.cons (F.ev rfl) .nil))) _) (Jfp P Q G H 0 m capp pp ps _ hQ (by decide) ha (rp.call HM.bel HM.bel.size)) fun a w z F=>?_
 replace HM:=HM.on z
 clear z
 refine lxv (.tuple #[num 0,.int .i64 1]) F (Jc (F.ev rfl)) fun a F=>?_
 refine lxv (num 0) F (Jk (F.ev rfl) rfl) fun a F=>?_
 refine lxv (.int .i64 1) F (Jk (F.ev rfl) rfl) fun a F=>?_
 refine Jn F HM (Ja rfl _) rfl (by rfl) (Kd) fun a w gv F HM=>?_
 refine Ju F HM (Ja rfl _) rfl (k:=0) rfl (Ka (F.ev rfl) (F.ev rfl) (HM.get 0 rfl)) (M2:=[(gv,24,ncs 0),(gg,26,gcs P Q G H)]) (rfl) fun w HM=>?_
 refine lxv (.int .i64 1) F (Jg (F.ev rfl)) fun a F=>?_
 refine Jf ?_
 refine Kgr ?_
 refine lxv (grp P Q G H) F (Jy (F.ev rfl) (HM.get 1 rfl)) fun a F=>?_
 refine Jr F (Ja rfl _) rfl (by rfl) (Ji Try.func18 (by kernel_rfl) (by rfl) (.cons (F.ev rfl) .nil) _) (Jad P Q G H hgd hP hQ hG hH _) fun a w z F=>?_
 replace HM:=HM.on z
 clear z
 refine lxv (.bool true) F (Jc (F.ev rfl)) fun a F=>?_
 refine lxw 16 true (.pointer (some ⟨gg,4,none⟩)) F (Kh (F.ev rfl)) fun a F=>?_
 refine lxw 16 true (.pointer (some ⟨gg,4,none⟩)) F (Ky (F.ev rfl) rfl) fun a F=>?_
 refine lxw 16 true (.int .u64 (wd Q 0)) F (Kx (F.ev rfl) (HM.get 1 rfl) rfl) fun a F=>?_
 refine lxw 16 true (.bool false) F (Jex h7 (F.ev rfl) rfl) fun a F=>?_
 refine lxv (.bool false) F (Jt (b:=true) (r:=.bool false) (F.ev rfl) (F.ev rfl) rfl rfl) fun a F=>?_
 refine lxv (.bool false) F (Jc (F.ev rfl)) fun a F=>?_
 refine lxp 22 false F fun a F=>?_
 refine lxp 22 false F fun a F=>?_
 refine lxv (.bool false) F (Jt (b:=false) (r:=.bool false) (F.ev rfl) (F.ev rfl) rfl rfl) fun a F=>?_
 refine lxv (.bool false) F (Jg (F.ev rfl)) fun a F=>?_
 refine Jf ?_
 refine Kgq ?_
 refine wp_ret ?_
 repeat (first | refine Jv ?_ | refine Jp ?_)
 exact Kv F HM (Kt F rfl (s:=4) rfl)

set_option maxRecDepth 100000 in
set_option maxHeartbeats 800000 in
theorem fine_fft (P Q G H m capp:Nat) (pp:Option Addr) (ps:List Nat) (hP:P<2^256) (hQ:Q<2^256) (hG:G<2^256) (hH:H<2^256) (w0:World) (rp:RN w0.heap.size w0 pp m capp ps) (ha:atB Q 0 ps=false) (hgd:goodB P Q G H=false) (h7:decide (7<wd Q 0)=true):Calls Try.prog 7 #[grp P Q G H,.slice pp m capp] w0 fun e w'=>e=.returned (.bool false)∧Below w0.heap.size w0 w':=by
 refine Kc (args:=[grp P Q G H,.slice pp m capp]) Try.func7 rfl Try.ntmps7 (by rfl) fun a F HM=>?_
 refine Kgr ?_
 refine Jn F HM (Ja rfl _) rfl (by rfl) (Kn (F.ev rfl)) fun a w gg F HM=>?_
 refine lxv (.bool false) F (Jg rfl) fun a F=>?_
 refine Jf ?_
 refine Kgr ?_
 refine lxv (grp P Q G H) F (Jy (F.ev rfl) (HM.get 0 rfl)) fun a F=>?_
 refine lxv (.slice pp m capp) F (Jc (F.ev rfl)) fun a F=>?_
 refine lxv (num 0) F (Ut) fun a F=>?_
 refine Jr F (Ja rfl _) rfl (by rfl) (Ji Try.func17 (by kernel_rfl) (by rfl) (.cons (F.ev rfl) (.cons (F.ev rfl) (.cons (F.ev rfl) .nil))) _) (Jfp P Q G H 0 m capp pp ps _ hQ (by decide) ha (rp.call HM.bel HM.bel.size)) fun a w z F=>?_
 replace HM:=HM.on z
 clear z
 refine lxv (.tuple #[num 0,.int .i64 1]) F (Jc (F.ev rfl)) fun a F=>?_
 refine lxv (num 0) F (Jk (F.ev rfl) rfl) fun a F=>?_
 refine lxv (.int .i64 1) F (Jk (F.ev rfl) rfl) fun a F=>?_
 refine Jn F HM (Ja rfl _) rfl (by rfl) (Kd) fun a w gv F HM=>?_
 refine Ju F HM (Ja rfl _) rfl (k:=0) rfl (Ka (F.ev rfl) (F.ev rfl) (HM.get 0 rfl)) (M2:=[(gv,24,ncs 0),(gg,26,gcs P Q G H)]) (rfl) fun w HM=>?_
 refine lxv (.int .i64 1) F (Jg (F.ev rfl)) fun a F=>?_
 refine Jf ?_
 refine Kgr ?_
 refine lxv (grp P Q G H) F (Jy (F.ev rfl) (HM.get 1 rfl)) fun a F=>?_
 refine Jr F (Ja rfl _) rfl (by rfl) (Ji Try.func18 (by kernel_rfl) (by rfl) (.cons (F.ev rfl) .nil) _) (Jad P Q G H hgd hP hQ hG hH _) fun a w z F=>?_
 replace HM:=HM.on z
 clear z
 refine lxv (.bool false) F (Jc (F.ev rfl)) fun a F=>?_
 refine lxp 16 false F fun a F=>?_
 refine lxp 16 false F fun a F=>?_
 refine lxp 16 false F fun a F=>?_
 refine lxp 16 false F fun a F=>?_
 refine lxv (.bool false) F (Jt (b:=false) (r:=.bool false) (F.ev rfl) (F.ev rfl) rfl rfl) fun a F=>?_
 refine lxv (.bool false) F (Jc (F.ev rfl)) fun a F=>?_
 refine lxp 22 false F fun a F=>?_
 refine lxp 22 false F fun a F=>?_
 refine lxv (.bool false) F (Jt (b:=false) (r:=.bool false) (F.ev rfl) (F.ev rfl) rfl rfl) fun a F=>?_
 refine lxv (.bool false) F (Jg (F.ev rfl)) fun a F=>?_
 refine Jf ?_
 refine Kgq ?_
 refine wp_ret ?_
 repeat (first | refine Jv ?_ | refine Jp ?_)
 exact Kv F HM (Kt F rfl (s:=4) rfl)

set_option maxRecDepth 100000 in
set_option maxHeartbeats 800000 in
theorem fine_fff (P Q G H m capp:Nat) (pp:Option Addr) (ps:List Nat) (hP:P<2^256) (hQ:Q<2^256) (hG:G<2^256) (hH:H<2^256) (w0:World) (rp:RN w0.heap.size w0 pp m capp ps) (ha:atB Q 0 ps=false) (hgd:goodB P Q G H=false) (h7:decide (7<wd Q 0)=false):Calls Try.prog 7 #[grp P Q G H,.slice pp m capp] w0 fun e w'=>e=.returned (.bool false)∧Below w0.heap.size w0 w':=by
 refine Kc (args:=[grp P Q G H,.slice pp m capp]) Try.func7 rfl Try.ntmps7 (by rfl) fun a F HM=>?_
 refine Kgr ?_
 refine Jn F HM (Ja rfl _) rfl (by rfl) (Kn (F.ev rfl)) fun a w gg F HM=>?_
 refine lxv (.bool false) F (Jg rfl) fun a F=>?_
 refine Jf ?_
 refine Kgr ?_
 refine lxv (grp P Q G H) F (Jy (F.ev rfl) (HM.get 0 rfl)) fun a F=>?_
 refine lxv (.slice pp m capp) F (Jc (F.ev rfl)) fun a F=>?_
 refine lxv (num 0) F (Ut) fun a F=>?_
 refine Jr F (Ja rfl _) rfl (by rfl) (Ji Try.func17 (by kernel_rfl) (by rfl) (.cons (F.ev rfl) (.cons (F.ev rfl) (.cons (F.ev rfl) .nil))) _) (Jfp P Q G H 0 m capp pp ps _ hQ (by decide) ha (rp.call HM.bel HM.bel.size)) fun a w z F=>?_
 replace HM:=HM.on z
 clear z
 refine lxv (.tuple #[num 0,.int .i64 1]) F (Jc (F.ev rfl)) fun a F=>?_
 refine lxv (num 0) F (Jk (F.ev rfl) rfl) fun a F=>?_
 refine lxv (.int .i64 1) F (Jk (F.ev rfl) rfl) fun a F=>?_
 refine Jn F HM (Ja rfl _) rfl (by rfl) (Kd) fun a w gv F HM=>?_
 refine Ju F HM (Ja rfl _) rfl (k:=0) rfl (Ka (F.ev rfl) (F.ev rfl) (HM.get 0 rfl)) (M2:=[(gv,24,ncs 0),(gg,26,gcs P Q G H)]) (rfl) fun w HM=>?_
 refine lxv (.int .i64 1) F (Jg (F.ev rfl)) fun a F=>?_
 refine Jf ?_
 refine Kgr ?_
 refine lxv (grp P Q G H) F (Jy (F.ev rfl) (HM.get 1 rfl)) fun a F=>?_
 refine Jr F (Ja rfl _) rfl (by rfl) (Ji Try.func18 (by kernel_rfl) (by rfl) (.cons (F.ev rfl) .nil) _) (Jad P Q G H hgd hP hQ hG hH _) fun a w z F=>?_
 replace HM:=HM.on z
 clear z
 refine lxv (.bool false) F (Jc (F.ev rfl)) fun a F=>?_
 refine lxp 16 false F fun a F=>?_
 refine lxp 16 false F fun a F=>?_
 refine lxp 16 false F fun a F=>?_
 refine lxp 16 false F fun a F=>?_
 refine lxv (.bool false) F (Jt (b:=false) (r:=.bool false) (F.ev rfl) (F.ev rfl) rfl rfl) fun a F=>?_
 refine lxv (.bool false) F (Jc (F.ev rfl)) fun a F=>?_
 refine lxp 22 false F fun a F=>?_
 refine lxp 22 false F fun a F=>?_
 refine lxv (.bool false) F (Jt (b:=false) (r:=.bool false) (F.ev rfl) (F.ev rfl) rfl rfl) fun a F=>?_
 refine lxv (.bool false) F (Jg (F.ev rfl)) fun a F=>?_
 refine Jf ?_
 refine Kgq ?_
 refine wp_ret ?_
 repeat (first | refine Jv ?_ | refine Jp ?_)
 exact Kv F HM (Kt F rfl (s:=4) rfl)

noncomputable def fineB (P Q G H:Nat) (ps:List Nat):Bool:=goodB P Q G H && decide (7<wd Q 0) && atB Q 0 ps
theorem fine_any (P Q G H m capp:Nat) (pp:Option Addr) (ps:List Nat) (hP:P<2^256) (hQ:Q<2^256) (hG:G<2^256) (hH:H<2^256) (w0:World) (rp:RN w0.heap.size w0 pp m capp ps)  : Calls Try.prog 7 #[grp P Q G H,.slice pp m capp] w0 fun e w'=>e=.returned (.bool (fineB P Q G H ps))∧Below w0.heap.size w0 w':=by
 unfold fineB
 rcases hgd:goodB P Q G H with _ | _ <;> rcases h7:decide (7<wd Q 0) with _ | _ <;> rcases ha:atB Q 0 ps with _ | _
 ·exact fine_fff P Q G H m capp pp ps hP hQ hG hH w0 rp ha hgd h7
 ·exact fine_tff P Q G H m capp pp ps hP hQ hG hH w0 rp ha hgd h7
 ·exact fine_fft P Q G H m capp pp ps hP hQ hG hH w0 rp ha hgd h7
 ·exact fine_tft P Q G H m capp pp ps hP hQ hG hH w0 rp ha hgd h7
 ·exact fine_ftf P Q G H m capp pp ps hP hQ hG hH w0 rp ha hgd h7
 ·exact fine_ttf P Q G H m capp pp ps hP hQ hG hH w0 rp ha hgd h7
 ·exact fine_ftt P Q G H m capp pp ps hP hQ hG hH w0 rp ha hgd h7
 ·exact fine_ttt P Q G H m capp pp ps hP hQ hG hH w0 rp ha hgd h7
end Go.Proofs.Ytcbnmdkmfdjpiaa
