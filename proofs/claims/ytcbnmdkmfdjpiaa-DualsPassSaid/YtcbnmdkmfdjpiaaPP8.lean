import Derived.Deep.Cut
import Derived.Test.YtcbnmdkmfdjpiaaPP10
import Derived.Test.YtcbnmdkmfdjpiaaPP3
import Derived.Test.YtcbnmdkmfdjpiaaPP5
import Derived.Test.YtcbnmdkmfdjpiaaPShort
namespace Go.Proofs.Ytcbnmdkmfdjpiaa
set_option maxRecDepth 100000
set_option maxHeartbeats 8000000
open Go.RowKit
set_option linter.unusedSimpArgs false
set_option linter.unusedVariables false
attribute [local go_sem ↓] Go.wp_at_zero Go.wp_at_succ

theorem Jae {b:Bool} (P Q G H n cap:Nat) (pa:Option Addr) (xs:List Nat) (w0:World) (hb:Jcw Q xs=b) (hQ:Q<2^256) (r:RN w0.heap.size w0 pa n cap xs):Calls Try.prog 28 #[grp P Q G H,.slice pa n cap] w0 fun e w'=>e=.returned (.bool b)∧Below w0.heap.size w0 w':=by
 subst hb;exact areExp_any P Q G H n cap pa xs w0 hQ r
def atB (Q:Nat) (X:Nat) (ps:List Nat):Bool:=Jcw Q [X] && Jcw Q ps
theorem atB_iff {Q X:Nat} {ps:List Nat}:atB Q X ps=true ↔ 1<Q∧X<Q∧∀ c∈ps,c<Q:=by
 simp [atB,Jcw,and_assoc]
 intro h1 _
 exact ⟨fun h c hc=>(h c hc).2,fun h c hc=>⟨h1,h c hc⟩⟩
theorem at_n1 (P Q G H X n cap:Nat) (pa:Option Addr) (ps:List Nat) (w0:World) (hQ:Q<2^256) (hX:X<2^256) (r:RN w0.heap.size w0 pa n cap ps) (hB1:Jcw Q [X]=false):Calls Try.prog 17 #[grp P Q G H,.slice pa n cap,num X] w0 fun e w'=>e=.returned (.tuple #[num 0,.int .i64 1])∧Below w0.heap.size w0 w':=by
 refine Kc (args:=[grp P Q G H,.slice pa n cap,num X]) Try.func17 rfl Try.ntmps17 (by rfl) fun a F HM=>?_
 refine Kgr ?_
 refine Jn F HM (Ja rfl _) rfl (by rfl) (Kn (F.ev rfl)) fun a w gg F HM=>?_
 refine Jn F HM (Ja rfl _) rfl (by rfl) (Wp (F.ev rfl)) fun a w gx F HM=>?_
 refine Jn F HM (Ja rfl _) rfl (by rfl) (Kd) fun a w go F HM=>?_
 refine lxv (.int .i64 0) F (Jg rfl) fun a F=>?_
 refine Jf ?_
 refine Kgr ?_
 refine lxv (grp P Q G H) F (Jy (F.ev rfl) (HM.get 2 rfl)) fun a F=>?_
 refine lxv (num X) F (Kg (F.ev rfl) (HM.get 1 rfl)) fun a F=>?_
 refine Jaq F HM (Ja rfl _) rfl (by rfl) (Wx (F.ev rfl)) fun a w gr F HM=>?_
 refine Jr F (Ja rfl _) rfl (by rfl) (Ji Try.func28 (by kernel_rfl) (by rfl) (.cons (F.ev rfl) (.cons (F.ev rfl) .nil)) _) (Jae P Q G H 1 1 _ [X] _ hB1 hQ (((Pf.one X).rsA (HM.get 0 rfl) rfl (by decide) (by decide) (by simpa using hX)))) fun a w z F=>?_
 replace HM:=HM.on z
 clear z
 refine lxv (.bool true) F (Xv (b:=false) (r:=true) (F.ev rfl) rfl) fun a F=>?_
 refine lxv (.bool true) F (Jc (F.ev rfl)) fun a F=>?_
 refine lxp 13 true F fun a F=>?_
 refine lxp 13 true F fun a F=>?_
 refine lxp 13 true F fun a F=>?_
 refine lxp 13 true F fun a F=>?_
 refine lxv (.bool true) F (Jt (b:=true) (r:=.bool true) (F.ev rfl) rfl (F.ev rfl) rfl) fun a F=>?_
 refine Jf ?_
 refine Kgq ?_
 refine wp_cond_true (F.ev rfl) ?_
 refine Kgr ?_
 refine lxv (num 0) F (Ut) fun a F=>?_
 refine Ju F HM (Ja rfl _) rfl (k:=1) rfl (Ka (F.ev rfl) (F.ev rfl) (HM.get 1 rfl)) (M2:=[(gr,24,(Xs X)),(go,24,ncs 0),(gx,24,ncs X),(gg,26,gcs P Q G H)]) (rfl) fun w HM=>?_
 refine lxv (.int .i64 1) F (Jg rfl) fun a F=>?_
 refine Jf ?_
 refine Kgq ?_
 refine wp_ret ?_
 repeat (first | refine Jv ?_ | refine Jp ?_)
 exact Kv F HM (Jcj F (s:=6) (t:=7) rfl rfl rfl (HM.get 1 rfl))

theorem at_n2 (P Q G H X n cap:Nat) (pa:Option Addr) (ps:List Nat) (w0:World) (hQ:Q<2^256) (hX:X<2^256) (r:RN w0.heap.size w0 pa n cap ps) (hB1:Jcw Q [X]=true) (hB2:Jcw Q ps=false):Calls Try.prog 17 #[grp P Q G H,.slice pa n cap,num X] w0 fun e w'=>e=.returned (.tuple #[num 0,.int .i64 1])∧Below w0.heap.size w0 w':=by
 refine Kc (args:=[grp P Q G H,.slice pa n cap,num X]) Try.func17 rfl Try.ntmps17 (by rfl) fun a F HM=>?_
 refine Kgr ?_
 refine Jn F HM (Ja rfl _) rfl (by rfl) (Kn (F.ev rfl)) fun a w gg F HM=>?_
 refine Jn F HM (Ja rfl _) rfl (by rfl) (Wp (F.ev rfl)) fun a w gx F HM=>?_
 refine Jn F HM (Ja rfl _) rfl (by rfl) (Kd) fun a w go F HM=>?_
 refine lxv (.int .i64 0) F (Jg rfl) fun a F=>?_
 refine Jf ?_
 refine Kgr ?_
 refine lxv (grp P Q G H) F (Jy (F.ev rfl) (HM.get 2 rfl)) fun a F=>?_
 refine lxv (num X) F (Kg (F.ev rfl) (HM.get 1 rfl)) fun a F=>?_
 refine Jaq F HM (Ja rfl _) rfl (by rfl) (Wx (F.ev rfl)) fun a w gr F HM=>?_
 refine Jr F (Ja rfl _) rfl (by rfl) (Ji Try.func28 (by kernel_rfl) (by rfl) (.cons (F.ev rfl) (.cons (F.ev rfl) .nil)) _) (Jae P Q G H 1 1 _ [X] _ hB1 hQ (((Pf.one X).rsA (HM.get 0 rfl) rfl (by decide) (by decide) (by simpa using hX)))) fun a w z F=>?_
 replace HM:=HM.on z
 clear z
 refine lxv (.bool false) F (Xv (b:=true) (r:=false) (F.ev rfl) rfl) fun a F=>?_
 refine lxv (.bool false) F (Jc (F.ev rfl)) fun a F=>?_
 refine lxw 13 false (grp P Q G H) F (Jy (F.ev rfl) (HM.get 3 rfl)) fun a F=>?_
 refine lxw 13 false (.slice pa n cap) F (Jc (F.ev rfl)) fun a F=>?_
 refine Jr F (F.want (t:=13) (c:=false) rfl rfl rfl (by rfl) rfl) rfl (by rfl) (Ji Try.func28 (by kernel_rfl) (by rfl) (.cons (F.ev rfl) (.cons (F.ev rfl) .nil)) _) (Jae P Q G H n cap pa ps _ hB2 hQ (r.call HM.bel HM.bel.size)) fun a w z F=>?_
 replace HM:=HM.on z
 clear z
 refine lxw 13 false (.bool true) F (Xv (b:=false) (r:=true) (F.ev rfl) rfl) fun a F=>?_
 refine lxv (.bool true) F (Jt (b:=false) (r:=.bool true) (F.ev rfl) rfl (F.ev rfl) rfl) fun a F=>?_
 refine Jf ?_
 refine Kgq ?_
 refine wp_cond_true (F.ev rfl) ?_
 refine Kgr ?_
 refine lxv (num 0) F (Ut) fun a F=>?_
 refine Ju F HM (Ja rfl _) rfl (k:=1) rfl (Ka (F.ev rfl) (F.ev rfl) (HM.get 1 rfl)) (M2:=[(gr,24,(Xs X)),(go,24,ncs 0),(gx,24,ncs X),(gg,26,gcs P Q G H)]) (rfl) fun w HM=>?_
 refine lxv (.int .i64 1) F (Jg rfl) fun a F=>?_
 refine Jf ?_
 refine Kgq ?_
 refine wp_ret ?_
 repeat (first | refine Jv ?_ | refine Jp ?_)
 exact Kv F HM (Jcj F (s:=6) (t:=7) rfl rfl rfl (HM.get 1 rfl))

theorem at_y (P Q G H X n cap:Nat) (pa:Option Addr) (ps:List Nat) (w0:World) (hQ:Q<2^256) (hX:X<2^256) (r:RN w0.heap.size w0 pa n cap ps) (hB1:Jcw Q [X]=true) (hB2:Jcw Q ps=true) (h1:1<Q) (hXQ:X<Q) (hp:∀ c∈ps,c<Q):Calls Try.prog 17 #[grp P Q G H,.slice pa n cap,num X] w0 fun e w'=>e=.returned (.tuple #[num (Ki Q (evZ (zs ps) X)),.int .i64 0])∧Below w0.heap.size w0 w':=by
 refine Kc (args:=[grp P Q G H,.slice pa n cap,num X]) Try.func17 rfl Try.ntmps17 (by rfl) fun a F HM=>?_
 refine Kgr ?_
 refine Jn F HM (Ja rfl _) rfl (by rfl) (Kn (F.ev rfl)) fun a w gg F HM=>?_
 refine Jn F HM (Ja rfl _) rfl (by rfl) (Wp (F.ev rfl)) fun a w gx F HM=>?_
 refine Jn F HM (Ja rfl _) rfl (by rfl) (Kd) fun a w go F HM=>?_
 refine lxv (.int .i64 0) F (Jg rfl) fun a F=>?_
 refine Jf ?_
 refine Kgr ?_
 refine lxv (grp P Q G H) F (Jy (F.ev rfl) (HM.get 2 rfl)) fun a F=>?_
 refine lxv (num X) F (Kg (F.ev rfl) (HM.get 1 rfl)) fun a F=>?_
 refine Jaq F HM (Ja rfl _) rfl (by rfl) (Wx (F.ev rfl)) fun a w gr F HM=>?_
 refine Jr F (Ja rfl _) rfl (by rfl) (Ji Try.func28 (by kernel_rfl) (by rfl) (.cons (F.ev rfl) (.cons (F.ev rfl) .nil)) _) (Jae P Q G H 1 1 _ [X] _ hB1 hQ (((Pf.one X).rsA (HM.get 0 rfl) rfl (by decide) (by decide) (by simpa using hX)))) fun a w z F=>?_
 replace HM:=HM.on z
 clear z
 refine lxv (.bool false) F (Xv (b:=true) (r:=false) (F.ev rfl) rfl) fun a F=>?_
 refine lxv (.bool false) F (Jc (F.ev rfl)) fun a F=>?_
 refine lxw 13 false (grp P Q G H) F (Jy (F.ev rfl) (HM.get 3 rfl)) fun a F=>?_
 refine lxw 13 false (.slice pa n cap) F (Jc (F.ev rfl)) fun a F=>?_
 refine Jr F (F.want (t:=13) (c:=false) rfl rfl rfl (by rfl) rfl) rfl (by rfl) (Ji Try.func28 (by kernel_rfl) (by rfl) (.cons (F.ev rfl) (.cons (F.ev rfl) .nil)) _) (Jae P Q G H n cap pa ps _ hB2 hQ (r.call HM.bel HM.bel.size)) fun a w z F=>?_
 replace HM:=HM.on z
 clear z
 refine lxw 13 false (.bool false) F (Xv (b:=true) (r:=false) (F.ev rfl) rfl) fun a F=>?_
 refine lxv (.bool false) F (Jt (b:=false) (r:=.bool false) (F.ev rfl) rfl (F.ev rfl) rfl) fun a F=>?_
 refine Jf ?_
 refine Kgq ?_
 refine wp_cond_false (F.ev rfl) ?_
 refine Kgr ?_
 refine lxv (grp P Q G H) F (Jy (F.ev rfl) (HM.get 3 rfl)) fun a F=>?_
 refine lxv (.slice pa n cap) F (Jc (F.ev rfl)) fun a F=>?_
 refine lxv (num X) F (Kg (F.ev rfl) (HM.get 2 rfl)) fun a F=>?_
 refine Jr F (Ja rfl _) rfl (by rfl) (Ji Try.func31 (by kernel_rfl) (by rfl) (.cons (F.ev rfl) (.cons (F.ev rfl) (.cons (F.ev rfl) .nil))) _) (value_any P Q G H X n cap pa ps _ hQ h1 hXQ hp (r.call HM.bel HM.bel.size)) fun a w z F=>?_
 replace HM:=HM.on z
 clear z
 refine Ju F HM (Ja rfl _) rfl (k:=1) rfl (Ka (F.ev rfl) (F.ev rfl) (HM.get 1 rfl)) (M2:=[(gr,24,(Xs X)),(go,24,ncs (Ki Q (evZ (zs ps) X))),(gx,24,ncs X),(gg,26,gcs P Q G H)]) (rfl) fun w HM=>?_
 refine lxv (.int .i64 0) F (Jg rfl) fun a F=>?_
 refine Jf ?_
 refine Kgq ?_
 refine wp_ret ?_
 repeat (first | refine Jv ?_ | refine Jp ?_)
 exact Kv F HM (Jcj F (s:=6) (t:=7) rfl rfl rfl (HM.get 1 rfl))

theorem Jcx (P Q G H X n cap:Nat) (pa:Option Addr) (ps:List Nat) (w0:World) (hQ:Q<2^256) (h:atB Q X ps=true) (r:RN w0.heap.size w0 pa n cap ps):Calls Try.prog 17 #[grp P Q G H,.slice pa n cap,num X] w0 fun e w'=>e=.returned (.tuple #[num (Ki Q (evZ (zs ps) X)),.int .i64 0])∧Below w0.heap.size w0 w':=by
 obtain ⟨h1,h2,h3⟩:=atB_iff.1 h
 unfold atB at h
 rw [Bool.and_eq_true] at h
 exact at_y P Q G H X n cap pa ps w0 hQ (Nat.lt_trans h2 hQ) r h.1 h.2 h1 h2 h3
theorem Jfp (P Q G H X n cap:Nat) (pa:Option Addr) (ps:List Nat) (w0:World) (hQ:Q<2^256) (hX:X<2^256) (h:atB Q X ps=false) (r:RN w0.heap.size w0 pa n cap ps):Calls Try.prog 17 #[grp P Q G H,.slice pa n cap,num X] w0 fun e w'=>e=.returned (.tuple #[num 0,.int .i64 1])∧Below w0.heap.size w0 w':=by
 unfold atB at h
 by_cases hb:Jcw Q [X]=true
 ·rw [hb,Bool.true_and] at h
  exact at_n2 P Q G H X n cap pa ps w0 hQ hX r hb h
 ·exact at_n1 P Q G H X n cap pa ps w0 hQ hX r (Bool.eq_false_iff.2 hb)
theorem o_make {dst:Option Tmp} {ρ:Operand→Value} {w:World} {x y:Operand} {ty:TypeId} {pos:String} {after:Array Edge} {gd:Option (Nat × Bool)} {n:Nat} (hn:n≤2000) (hx:ρ x=.int .i64 (n:Nat)) (hy:ρ y=.int .i64 (n:Nat)) :
  (execOp ρ ⟨dst,.makeSlice 27 x y,ty,pos,after,gd⟩).run Try.prog w=.ok (.value (.slice (some ⟨w.heap.size,0,none⟩) n n)) (w.alloc (.cells (madeCells (num 0).cells (n*4)) 24)):=by
 obtain ⟨i0,hi,hz0,hz1,hz2⟩:=info_parts Try.infoNum
 have:=run_makeSlice (P:=Try.prog) w 27 24 i0 _ Try.underlying27 hi hz0 .i64 .i64 (n:Int) (n:Int) (by omega) (Int.le_refl _) (by rw [hz1];omega) (by rw [hz2];omega) (by omega)
 rw [hz1] at this
 simp only [Int.toNat_natCast] at this
 simp [execOp,hx,hy,this]
theorem Pf.made (n:Nat):Pf (madeCells (num 0).cells (n*4)) (List.replicate n 0):=by
 have hs:(madeCells (num 0).cells (n*4)).size=n*4:=by simp [madeCells]
 refine ⟨Nat.le_of_eq (by rw [List.length_replicate,hs]),fun i hi k hk=>?_⟩
 rw [List.length_replicate] at hi
 have hlt:i*4+k<n*4:=by omega
 have hm:(i*4+k)%4=k:=by omega
 rw [List.getElem_replicate]
 have h0:(num 0).cells=#[.int .u64 (wd 0 0),.int .u64 (wd 0 1),.int .u64 (wd 0 2),.int .u64 (wd 0 3)]:=rfl
 simp only [madeCells]
 rw [Array.getElem?_map,Array.getElem?_range,if_pos hlt]
 simp only [Option.map_some,h0]
 rw [show (#[.int .u64 (wd 0 0),.int .u64 (wd 0 1),.int .u64 (wd 0 2),.int .u64 (wd 0 3)]:Array Value).size=4 from rfl,hm]
 match k,hk with
 | 0,_=>rfl
 | 1,_=>rfl
 | 2,_=>rfl
 | 3,_=>rfl
section
variable {P:Program} {ops:Array Oper} {Q:Exit→Act→World→Prop} {a:Act} {n0:Nat} {w w0:World} {o:Oper} {N:Nat} {L:List (Nat × Value)} {df:List Deferred} {M:List (Nat × TypeId × Array Value)} {S:World→Prop} {fuel i:Nat} {listed:Array Bool}
end
def oth (Q:Nat) (xs:List Nat) (a:Int) (i:Nat):Int:=prZ a ((zs xs).eraseIdx i)
def AllU (Q:Nat) (xs:List Nat):Prop:=∀ (i x:Nat),xs[i]? = some x→U Q (oth Q xs (x:Int) i)
def WS (Q:Nat) (xs:List Nat) (X:Nat) (ws:List Nat) (k:Nat):Prop:=ws.length=xs.length∧(∀ v∈ws,v<Q)∧∀ (i x:Nat),i<k→xs[i]? = some x→∃ v,ws[i]? = some v∧Cg Q ((v:Int)*oth Q xs (x:Int) i) (oth Q xs (X:Int) i)
def wtsB (Q X:Nat) (xs:List Nat):Bool:=Jcw Q [X] && ptsB Q xs
end Go.Proofs.Ytcbnmdkmfdjpiaa
