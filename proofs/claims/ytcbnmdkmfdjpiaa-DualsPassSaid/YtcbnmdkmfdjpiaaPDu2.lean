import Derived.Deep.Cut
import Derived.Test.YtcbnmdkmfdjpiaaPDu1
import Derived.Test.YtcbnmdkmfdjpiaaPShort
namespace Go.Proofs.Ytcbnmdkmfdjpiaa
set_option maxRecDepth 100000
open Go.RowKit
set_option linter.unusedSimpArgs false
set_option linter.unusedVariables false
attribute [local go_sem ↓] Go.wp_at_zero Go.wp_at_succ

def DDl (i:Nat) (xs:List Nat):Int:=prZ (i:Int) ((xs.map fun x=>((x+1:Nat):Int)).filter fun y=>decide (y≠(i:Int)))
theorem DDl_same {i x:Nat} (pre:List Nat) (h:x+1=i):DDl i (pre++[x])=DDl i pre:=by
 unfold DDl
 rw [List.map_append,List.filter_append,Jde]
 have hc:decide (((x+1:Nat):Int)≠(i:Int))=false:=decide_eq_false (by omega)
 simp only [List.map_cons,List.map_nil,List.filter_cons,List.filter_nil,hc,Bool.false_eq_true,if_false,prZ,Int.mul_one]
theorem DDl_next {i x:Nat} (pre:List Nat) (h:¬ x+1=i):DDl i (pre++[x])=DDl i pre*((i:Int)-((x+1:Nat):Int)):=by
 unfold DDl
 rw [List.map_append,List.filter_append,Jde]
 have hc:decide (((x+1:Nat):Int)≠(i:Int))=true:=decide_eq_true (by omega)
 simp only [List.map_cons,List.map_nil,List.filter_cons,List.filter_nil,hc,if_true,prZ,Int.mul_one]
theorem rng_mod {k:Nat} (hk:k≤2000):(List.range k).map (·%2000)=List.range k:=by
 conv=>rhs;rw [← List.map_id (List.range k)]
 exact List.map_congr_left fun x hx=>Nat.mod_eq_of_lt (by have:=List.mem_range.1 hx;omega)
theorem sub_mul {Q:Nat} (h:1<Q) (a b c:Int):Ki Q a*((Ki Q b+Q-Ki Q c)%Q)%Q=Ki Q (a*(b-c)):=by
 rw [sof_sub h,sof_mul h]
set_option maxRecDepth 100000 in
set_option maxHeartbeats 800000 in
theorem apart_any (P Q G H k i:Nat) (hQ:Q<2^256) (h1:1<Q) (hk:k≤2000) (hi:i≤2000) (w0:World):Calls Try.prog 38 #[grp P Q G H,.int .i64 (k:Nat),.int .i64 (i:Nat)] w0 fun e w'=>e=.returned (num (Ki Q (DDl i (List.range k))))∧Below w0.heap.size w0 w':=by
 refine Xb (args:=[grp P Q G H,.int .i64 (k:Nat),.int .i64 (i:Nat)]) Try.func38 rfl Try.ntmps38 (by rfl) fun a0 F HM=>?_
 refine Kgr ?_
 refine Jn F HM (Ja rfl _) rfl (by rfl) (Kn (F.ev rfl)) fun a w gr F HM=>?_
 refine Jn F HM (Ja rfl _) rfl (by rfl) (Jao (F.ev rfl)) fun a w gm F HM=>?_
 refine Jn F HM (Ja rfl _) rfl (by rfl) (Kd) fun a w go F HM=>?_
 refine Jf ?_
 refine Kgq ?_
 refine Ks (S:=fun w'=>Mem _ _ w' [(go,24,ncs 0),(gm,3,#[.int .i64 (i:Nat)]),(gr,26,gcs P Q G H)]) HM (fun _ h=>h) (by kernel_rfl) fun w HM HBW=>?_
 clear HBW
 try simp only [List.append_eq,List.cons_append,List.nil_append]
 refine Kw [⟨0,13,[],.val (grp P Q G H),true⟩,
   ⟨1,14,[0],.val (.int .i64 (i:Nat)),true⟩,
   ⟨3,16,[1],.val (grp P Q G H),true⟩,
   ⟨5,7,[],.cell 24 (ncs 0),false⟩,
   ⟨6,8,[],.cell 24 (ncs 0),false⟩,
   ⟨2,15,[0,1,2],.val (num (Ki Q (i:Nat))),false⟩,
   ⟨4,17,[2,5],.val (num (Ki Q 1)),false⟩] 2 _ F HM (fun _ h=>h.subl (by first | exact List.Sublist.refl _ | (repeat (first | exact List.Sublist.refl _ | refine List.Sublist.cons_cons _ ?_ | refine List.Sublist.cons _ ?_)))) (by kernel_rfl) (by rfl) ?_ ?_ ?_ ?_ ?_ ?_ ?_
 ·kernel_rfl
 ·exact of_decide_eq_true (by kernel_rfl)
 ·(repeat refine all_cons ⟨_,by rfl,by rfl⟩ ?_);exact Jj
 ·kernel_rfl
 ·(repeat (refine all_cons ?_ ?_;rotate_left));exact Jj
  all_goals try exact Jq _ (by rfl)
  ·exact Ug _ _ _ _ _ _ _ (by rfl) (by rfl) Jh (fun ρ w kn hs=>Jy (kn _ _ (F.old (by rfl) rfl)) (hs.get 2 rfl))
  ·exact Ug _ _ _ _ _ _ _ (by rfl) (by rfl) Jh (fun ρ w kn hs=>Vr (kn _ _ (F.old (by rfl) rfl)) ((((hs.get 1 rfl)).cell 0).trans rfl))
  ·exact Ug _ _ _ _ _ _ _ (by rfl) (by rfl) Jh (fun ρ w kn hs=>Jy (kn _ _ (F.old (by rfl) rfl)) (hs.get 2 rfl))
 ·(repeat (refine all_cons ?_ ?_;rotate_left));exact Jj
  all_goals try exact sA
  ·exact fun _=>Jam _ _ _ _ _ _ _ _ (by rfl) (by rfl) (Nat.le_refl _) (fun ρ w=>Kd)
  ·exact fun _=>Jam _ _ _ _ _ _ _ _ (by rfl) (by rfl) (Nat.le_refl _) (fun ρ w=>Kd)
  ·exact fun _=>Jm _ 11 _ _ [.tmp 13,.tmp 14] _ _ _ _ _ _ _ (by rfl) Try.func11 (by kernel_rfl) (by rfl) (by rfl) (Jh) (.cons (kc 0 13) (.cons (kc 1 14) .nil)) ((fun w=>Jch P Q G H (i:Nat) hQ (by omega) (by omega) w))
  ·exact fun _=>Jm _ 11 _ _ [.tmp 16,.const (.int .i64 1)] _ _ _ _ _ _ _ (by rfl) Try.func11 (by kernel_rfl) (by rfl) (by rfl) (Jh) (.cons (kc 2 16) (.cons (Je _) .nil)) ((fun w=>Jch P Q G H 1 hQ (by omega) (by omega) w))
 intro gs rs a w hgs hrs F HM HBW HR HO HT
 obtain rfl:=nl0 rs hrs
 obtain ⟨ga,gp,rfl⟩:=nl2 gs hgs
 clear hrs hgs HR HBW HO
 clear HT
 refine Vh (i:=7) HM (by kernel_rfl) (by rfl) rfl rfl (k:=0) rfl (Ka (F.ev rfl) (F.ev rfl) (HM.get 0 rfl)) (M2:=[(ga,24,ncs (Ki Q (i:Nat))),(gp,24,ncs 0),(go,24,ncs 0),(gm,3,#[.int .i64 (i:Nat)]),(gr,26,gcs P Q G H)]) (rfl) (fun _ h=>h.subl (by first | exact List.Sublist.refl _ | (repeat (first | exact List.Sublist.refl _ | refine List.Sublist.cons_cons _ ?_ | refine List.Sublist.cons _ ?_)))) fun w HM=>?_
 refine Vh (i:=8) HM (by kernel_rfl) (by rfl) rfl rfl (k:=1) rfl (Ka (F.ev rfl) (F.ev rfl) (HM.get 1 rfl)) (M2:=[(ga,24,ncs (Ki Q (i:Nat))),(gp,24,ncs (Ki Q 1)),(go,24,ncs 0),(gm,3,#[.int .i64 (i:Nat)]),(gr,26,gcs P Q G H)]) (rfl) (fun _ h=>h.subl (by first | exact List.Sublist.refl _ | (repeat (first | exact List.Sublist.refl _ | refine List.Sublist.cons_cons _ ?_ | refine List.Sublist.cons _ ?_)))) fun w HM=>?_
 refine Ui (by kernel_rfl) ?_ _
 refine Kgr ?_
 refine lxv (grp P Q G H) F (Jy (F.ev rfl) (HM.get 4 rfl)) fun a F=>?_
 refine lxv (.int .i64 (k:Nat)) F (Jc (F.ev rfl)) fun a F=>?_
 refine Xo F (Ja rfl _) rfl (by rfl) (Ji Try.func36 (by kernel_rfl) (by rfl) (.cons (F.ev rfl) (.cons (F.ev rfl) .nil)) _) (numbers_ex P Q G H k _) fun a w u hu F=>?_
 obtain ⟨gN,gG,rfl,z,hgN,hgG,hNG,hatN,hatG⟩:=hu
 replace HM:=HM.cons2 z hgN hgG hNG hatN hatG
 clear z hgN hgG hNG hatN hatG
 refine Jf ?_
 refine Kgq ?_
 refine (wpIn_wide (n:=9)).1 ?_
 have hb3:Below w0.heap.size w0 w:=HM.bel
 have hNlt:=(HM.get 0 rfl).lt
 have hGlt:=(HM.get 1 rfl).lt
 refine wpIn_rangeFunc_ownH rfl (by decide) (gf:=53) (lb:=#[.pointer (some ⟨gN,0,none⟩),.pointer (some ⟨gG,0,none⟩)]) (F.ev rfl) trivial (enters_of Try.func53 (by kernel_rfl) rfl)
  (num_seq P Q G H k 8 gN gG w0.heap.size hQ hk w hb3.size (HM.get 0 rfl) (HM.get 1 rfl)) KQ.trans ?Kb (Below.refl _ _) (fun _=>rfl)
  (fun pre W=>Mem w0.heap.size w0 W [(gN,3,#[.int .i64 (k:Nat)]),(gG,26,gcs P Q G H),(ga,24,ncs (Ki Q (i:Nat))),(gp,24,ncs (Ki Q (DDl i (pre.map (·%2000))))),(go,24,ncs 0),(gm,3,#[.int .i64 (i:Nat)]),(gr,26,gcs P Q G H)])
  (fun c pre W=>False)
  ?hI ?hIx (by rw [show DDl i (([]:List Nat).map (·%2000))=1 from rfl];exact HM)
  (fun x a' W=>∃ gx,w0.heap.size≤gx∧(∀ y∈[gN,gG,ga,gp,go,gm,gr],y≠gx)∧Fr a' 41 ((9,.int .i64 ((x%2000+1:Nat):Int))::(10,.pointer (some ⟨gx,0,none⟩))::[(3,.pointer (some ⟨gr,0,none⟩)),(5,.pointer (some ⟨gm,0,none⟩)),(6,.pointer (some ⟨go,0,none⟩)),(7,.pointer (some ⟨ga,0,none⟩)),(8,.pointer (some ⟨gp,0,none⟩))]) []∧At W gx 24 (ncs (Ki Q ((x%2000+1:Nat):Int))))
  ?hAx ?assign ?body ?done ?stop
 case Kb=>
  intro W l o o2 hl ho hc _
  exact ⟨⟨(Below.refl _ _).grown (grownBy_putObj' W l o2) (Nat.le_trans hb3.size (Nat.le_trans hl (Nat.le_of_lt (Array.getElem?_eq_some_iff.1 ho).1))) (fun k e=>by cases e;exact Nat.le_trans hb3.size hl),fun hb=>World.putObj_heap_other (by omega)⟩,⟨(Below.refl _ _).grown (grownBy_putObj' W l o2) (Nat.le_trans hb3.size (Nat.le_trans hl (Nat.le_of_lt (Array.getElem?_eq_some_iff.1 ho).1))) (fun k e=>by cases e;exact Nat.le_trans hb3.size hl),fun hb=>World.putObj_heap_other (by omega)⟩⟩
 case hI=>
  intro pre W W2 row h hg hr
  have hr2:∀ r,row=some r→w0.heap.size≤r∧∃ o:Obj,W.heap[r]? = some o∧o.isCells=false:=fun r e=>⟨Nat.le_trans hb3.size (hr r e).1,(hr r e).2⟩
  exact h.grown hg hr2
 case hIx=>
  intro c pre W W2 row h hg hr
  have hr2:∀ r,row=some r→w0.heap.size≤r∧∃ o:Obj,W.heap[r]? = some o∧o.isCells=false:=fun r e=>⟨Nat.le_trans hb3.size (hr r e).1,(hr r e).2⟩
  exact h.elim
 case hAx=>
  rintro x a2 u W W2 row ⟨gx,h0,d0,hF,k0⟩ hg hr
  exact ⟨gx,h0,d0,hF,Jef gx _ _ () W W2 row k0 hg (fun r e=>(hr r e).2)⟩
 case assign=>
  rintro lp pre x W K hM hK
  have F0:Fr { tmps:=((#[21,22]:Array Tmp).zip #[.int .i64 ((x%2000+1:Nat):Int),num (Ki Q ((x%2000+1:Nat):Int))]).foldl (fun t (p,v)=>t.setIfInBounds p v) a.tmps,defers:=[] } 41 ((22,num (Ki Q ((x%2000+1:Nat):Int)))::(21,.int .i64 ((x%2000+1:Nat):Int))::[(3,.pointer (some ⟨gr,0,none⟩)),(5,.pointer (some ⟨gm,0,none⟩)),(6,.pointer (some ⟨go,0,none⟩)),(7,.pointer (some ⟨ga,0,none⟩)),(8,.pointer (some ⟨gp,0,none⟩))]) []:=by
   have e:((#[21,22]:Array Tmp).zip #[.int .i64 ((x%2000+1:Nat):Int),num (Ki Q ((x%2000+1:Nat):Int))]).foldl (fun t (p,v)=>t.setIfInBounds p v) a.tmps=((a.put (some 21) (.int .i64 ((x%2000+1:Nat):Int))).put (some 22) (num (Ki Q ((x%2000+1:Nat):Int)))).tmps:=by simp [Act.put]
   have F2:=((F.sub [3,5,6,7,8]).put (.int .i64 ((x%2000+1:Nat):Int)) (d:=21) rfl).put (num (Ki Q ((x%2000+1:Nat):Int))) (d:=22) rfl
   rw [e]
   exact ⟨F2.size,rfl,F2.get⟩
  generalize ({ tmps:=_,defers:=[] }:Act)=a3 at F0 ⊢
  have HM:=hM.again
  have hb4:Below w0.heap.size w0 W:=hM.bel
  have F:=F0
  clear F0
  repeat (first | refine Js ?_ | refine Jo ?_ | refine wpIn_seq ?_ | refine wpIn_block ?_ | refine wpIn_skip ?_)
  refine Vl (by rfl) (by rintro ⟨_,_,h⟩;exact h) ?_
  refine lxv (.int .i64 ((x%2000+1:Nat):Int)) F (Jg (F.ev rfl)) fun a F=>?_
  refine Jf ?_
  repeat (first | refine Js ?_ | refine Jo ?_ | refine wpIn_seq ?_ | refine wpIn_block ?_ | refine wpIn_skip ?_)
  refine Vl (by rfl) (by rintro ⟨_,_,h⟩;exact h) ?_
  refine Jn F HM (Ja rfl _) rfl (by rfl) (Kd) fun a w gx F HM=>?_
  refine Ju F HM (Ja rfl _) rfl (k:=0) rfl (Ka (F.ev rfl) (F.ev rfl) (HM.get 0 rfl)) (M2:=[(gx,24,ncs (Ki Q ((x%2000+1:Nat):Int))),(gN,3,#[.int .i64 (k:Nat)]),(gG,26,gcs P Q G H),(ga,24,ncs (Ki Q (i:Nat))),(gp,24,ncs (Ki Q (DDl i (pre.map (·%2000))))),(go,24,ncs 0),(gm,3,#[.int .i64 (i:Nat)]),(gr,26,gcs P Q G H)]) (rfl) fun w HM=>?_
  refine Jf ?_
  repeat (first | refine Js ?_ | refine Jo ?_ | refine wpIn_seq ?_ | refine wpIn_block ?_ | refine wpIn_skip ?_)
  refine hK _ _ (HM.oth.from _) ⟨⟨HM.bel,fun _=>(HM.get 1 rfl).trans (hM.get 0 rfl).symm⟩,⟨HM.bel,fun _=>(HM.get 2 rfl).trans (hM.get 1 rfl).symm⟩⟩ (hM.join (HM.drop 1)) ⟨gx,HM.own _ (List.mem_cons_self),(fun y hy e=>(List.nodup_cons.1 HM.nd).1 (by rw [← e];first | (simpa using hy) | exact mem_pre hy)),F.sub [9,10,3,5,6,7,8],HM.get 0 rfl⟩
 case body=>
  rintro lp pre x a3 W hlp _ hM ⟨gx,h0,d0,F,k0⟩ hpl
  have HM:=hM.again
  replace HM:=HM.add h0 (fun y hy=>d0 y.1 (List.mem_map_of_mem (f:=(·.1)) hy)) k0
  clear h0 d0 k0
  by_cases hxi:x%2000+1=i
  ·repeat (first | refine Js ?_ | refine Jo ?_ | refine wpIn_seq ?_ | refine wpIn_block ?_ | refine wpIn_skip ?_)
   refine Vl (by rfl) (by rintro ⟨_,_,h⟩;exact h) ?_
   refine lxv (.int .i64 ((x%2000+1:Nat):Int)) F (Jc (F.ev rfl)) fun a F=>?_
   refine lxv (.int .i64 (i:Nat)) F (Vr (F.ev rfl) ((((HM.get 6 rfl)).cell 0).trans rfl)) fun a F=>?_
   refine lxv (.bool false) F (Ua (u:=.int .i64 ((x%2000+1:Nat):Int)) (v:=.int .i64 (i:Nat)) (fun ρ hx hy=>by simp only [execOp,hx,hy];simp [go_sem];omega) (F.ev rfl) (F.ev rfl)) fun a F=>?_
   refine Jf ?_
   repeat (first | refine Js ?_ | refine Jo ?_ | refine wpIn_seq ?_ | refine wpIn_block ?_ | refine wpIn_skip ?_)
   refine wpIn_cond_false (F.ev rfl) ?_
   repeat (first | refine Js ?_ | refine Jo ?_ | refine wpIn_seq ?_ | refine wpIn_block ?_ | refine wpIn_skip ?_)
   refine ⟨HM.oth.from _,⟨⟨HM.bel,fun _=>(HM.get 1 rfl).trans (hM.get 0 rfl).symm⟩,⟨HM.bel,fun _=>(HM.get 2 rfl).trans (hM.get 1 rfl).symm⟩⟩,by show Mem _ _ _ _;rw [List.map_append,List.map_cons,List.map_nil,DDl_same _ hxi];exact hM.join (HM.drop 1)⟩
  ·repeat (first | refine Js ?_ | refine Jo ?_ | refine wpIn_seq ?_ | refine wpIn_block ?_ | refine wpIn_skip ?_)
   refine Vl (by rfl) (by rintro ⟨_,_,h⟩;exact h) ?_
   refine lxv (.int .i64 ((x%2000+1:Nat):Int)) F (Jc (F.ev rfl)) fun a F=>?_
   refine lxv (.int .i64 (i:Nat)) F (Vr (F.ev rfl) ((((HM.get 6 rfl)).cell 0).trans rfl)) fun a F=>?_
   refine lxv (.bool true) F (Ua (u:=.int .i64 ((x%2000+1:Nat):Int)) (v:=.int .i64 (i:Nat)) (fun ρ hx hy=>by simp only [execOp,hx,hy];simp [go_sem];omega) (F.ev rfl) (F.ev rfl)) fun a F=>?_
   refine Jf ?_
   repeat (first | refine Js ?_ | refine Jo ?_ | refine wpIn_seq ?_ | refine wpIn_block ?_ | refine wpIn_skip ?_)
   refine wpIn_cond_true (F.ev rfl) ?_
   repeat (first | refine Js ?_ | refine Jo ?_ | refine wpIn_seq ?_ | refine wpIn_block ?_ | refine wpIn_skip ?_)
   refine Vl (by rfl) (by rintro ⟨_,_,h⟩;exact h) ?_
   refine lxv (grp P Q G H) F (Jy (F.ev rfl) (HM.get 7 rfl)) fun a F=>?_
   refine lxv (num (Ki Q (i:Nat))) F (Kg (F.ev rfl) (HM.get 3 rfl)) fun a F=>?_
   refine lxv (num (Ki Q ((x%2000+1:Nat):Int))) F (Kg (F.ev rfl) (HM.get 0 rfl)) fun a F=>?_
   refine Jr F (Ja rfl _) rfl (by rfl) (Ji Try.func27 (by kernel_rfl) (by rfl) (.cons (F.ev rfl) (.cons (F.ev rfl) (.cons (F.ev rfl) .nil))) _) ((ssub_yes P Q G H _ _ hQ h1 (Xc h1 _) (Xc h1 _)) _) fun a w z F=>?_
   replace HM:=HM.on z
   clear z
   refine lxv (.tuple #[num ((Ki Q (i:Nat)+Q-Ki Q ((x%2000+1:Nat):Int))%Q),.int .i64 0]) F (Jc (F.ev rfl)) fun a F=>?_
   refine lxv (num ((Ki Q (i:Nat)+Q-Ki Q ((x%2000+1:Nat):Int))%Q)) F (Jk (F.ev rfl) rfl) fun a F=>?_
   refine lxv (.int .i64 0) F (Jk (F.ev rfl) rfl) fun a F=>?_
   refine Jn F HM (Ja rfl _) rfl (by rfl) (Kd) fun a w gd F HM=>?_
   refine Ju F HM (Ja rfl _) rfl (k:=0) rfl (Ka (F.ev rfl) (F.ev rfl) (HM.get 0 rfl)) (M2:=[(gd,24,ncs ((Ki Q (i:Nat)+Q-Ki Q ((x%2000+1:Nat):Int))%Q)),(gx,24,ncs (Ki Q ((x%2000+1:Nat):Int))),(gN,3,#[.int .i64 (k:Nat)]),(gG,26,gcs P Q G H),(ga,24,ncs (Ki Q (i:Nat))),(gp,24,ncs (Ki Q (DDl i (pre.map (·%2000))))),(go,24,ncs 0),(gm,3,#[.int .i64 (i:Nat)]),(gr,26,gcs P Q G H)]) (rfl) fun w HM=>?_
   refine lxv (.int .i64 0) F (Jg (F.ev rfl)) fun a F=>?_
   refine Jf ?_
   repeat (first | refine Js ?_ | refine Jo ?_ | refine wpIn_seq ?_ | refine wpIn_block ?_ | refine wpIn_skip ?_)
   refine Vl (by rfl) (by rintro ⟨_,_,h⟩;exact h) ?_
   refine lxv (grp P Q G H) F (Jy (F.ev rfl) (HM.get 8 rfl)) fun a F=>?_
   refine lxv (num (Ki Q (DDl i (pre.map (·%2000))))) F (Kg (F.ev rfl) (HM.get 5 rfl)) fun a F=>?_
   refine lxv (num ((Ki Q (i:Nat)+Q-Ki Q ((x%2000+1:Nat):Int))%Q)) F (Kg (F.ev rfl) (HM.get 0 rfl)) fun a F=>?_
   refine Jr F (Ja rfl _) rfl (by rfl) (Ji Try.func39 (by kernel_rfl) (by rfl) (.cons (F.ev rfl) (.cons (F.ev rfl) (.cons (F.ev rfl) .nil))) _) ((Jdb P Q G H _ _ hQ h1 (Xc h1 _) (Nat.mod_lt _ (by omega))) _) fun a w z F=>?_
   replace HM:=HM.on z
   clear z
   refine lxv (.tuple #[num (Ki Q (DDl i (pre.map (·%2000)))*((Ki Q (i:Nat)+Q-Ki Q ((x%2000+1:Nat):Int))%Q)%Q),.int .i64 0]) F (Jc (F.ev rfl)) fun a F=>?_
   refine lxv (num (Ki Q (DDl i (pre.map (·%2000)))*((Ki Q (i:Nat)+Q-Ki Q ((x%2000+1:Nat):Int))%Q)%Q)) F (Jk (F.ev rfl) rfl) fun a F=>?_
   refine lxv (.int .i64 0) F (Jk (F.ev rfl) rfl) fun a F=>?_
   refine Ju F HM (Ja rfl _) rfl (k:=5) rfl (Ka (F.ev rfl) (F.ev rfl) (HM.get 5 rfl)) (M2:=[(gd,24,ncs ((Ki Q (i:Nat)+Q-Ki Q ((x%2000+1:Nat):Int))%Q)),(gx,24,ncs (Ki Q ((x%2000+1:Nat):Int))),(gN,3,#[.int .i64 (k:Nat)]),(gG,26,gcs P Q G H),(ga,24,ncs (Ki Q (i:Nat))),(gp,24,ncs (Ki Q (DDl i (pre.map (·%2000)))*((Ki Q (i:Nat)+Q-Ki Q ((x%2000+1:Nat):Int))%Q)%Q)),(go,24,ncs 0),(gm,3,#[.int .i64 (i:Nat)]),(gr,26,gcs P Q G H)]) (rfl) fun w HM=>?_
   refine Jf ?_
   repeat (first | refine Js ?_ | refine Jo ?_ | refine wpIn_seq ?_ | refine wpIn_block ?_ | refine wpIn_skip ?_)
   refine ⟨HM.oth.from _,⟨⟨HM.bel,fun _=>(HM.get 2 rfl).trans (hM.get 0 rfl).symm⟩,⟨HM.bel,fun _=>(HM.get 3 rfl).trans (hM.get 1 rfl).symm⟩⟩,by show Mem _ _ _ _;rw [List.map_append,List.map_cons,List.map_nil,DDl_next _ hxi,← sub_mul h1];exact hM.join (HM.drop 2)⟩
 case done=>
  rintro D ys W hD hys hM hK
  subst hys
  have F1:=F.sub [3,5,6,7,8]
  have F2:Fr { a with defers:={ target:=.collected D,args:=#[] }::a.defers } 41 [(3,.pointer (some ⟨gr,0,none⟩)),(5,.pointer (some ⟨gm,0,none⟩)),(6,.pointer (some ⟨go,0,none⟩)),(7,.pointer (some ⟨ga,0,none⟩)),(8,.pointer (some ⟨gp,0,none⟩))] [{ target:=.collected D,args:=#[] }]:=⟨F1.size,by simp [F1.defers],F1.get⟩
  generalize ({ a with defers:=_ }:Act)=a5 at F2 ⊢
  have HM:=hM.again
  replace F:=F2
  replace hM:Mem w0.heap.size w0 W [(gN,3,#[.int .i64 (k:Nat)]),(gG,26,gcs P Q G H),(ga,24,ncs (Ki Q (i:Nat))),(gp,24,ncs (Ki Q (DDl i (List.range k)))),(go,24,ncs 0),(gm,3,#[.int .i64 (i:Nat)]),(gr,26,gcs P Q G H)]:=by have e:=rng_mod hk;rw [e] at hM;exact hM
  replace HM:=hM.again
  refine Kgr ?_
  refine lxv (num (Ki Q (DDl i (List.range k)))) F (Kg (F.ev rfl) (HM.get 3 rfl)) fun a F=>?_
  refine Ju F HM (Ja rfl _) rfl (k:=4) rfl (Ka (F.ev rfl) (F.ev rfl) (HM.get 4 rfl)) (M2:=[(gN,3,#[.int .i64 (k:Nat)]),(gG,26,gcs P Q G H),(ga,24,ncs (Ki Q (i:Nat))),(gp,24,ncs (Ki Q (DDl i (List.range k)))),(go,24,ncs (Ki Q (DDl i (List.range k)))),(gm,3,#[.int .i64 (i:Nat)]),(gr,26,gcs P Q G H)]) (rfl) fun w HM=>?_
  refine Jf ?_
  refine Kgq ?_
  refine wp_ret ?_
  repeat (first | refine Jv ?_ | refine Jp ?_)
  have hKw:=HM.oth.same D _ hK rfl
  have HG:=(hM.join HM).grown (grownBy_putObj' w D (.deferred none)) (fun r e=>by cases e;exact ⟨Nat.le_trans hb3.size hD,_,hKw,rfl⟩)
  show LeavesInM Fence.wide 9 _ _ _ _ _ _ _
  rw [F.defers]
  refine ⟨by simp,.inl ⟨_,_,rfl,run_takeDeferred hKw,?_⟩⟩
  exact ⟨_,Jfb F (s:=6) rfl rfl (HG.get 4 rfl),rfl,HG.bel⟩
 case stop=>
  rintro D c pre W hD hpre h hK
  exact h.elim

end Go.Proofs.Ytcbnmdkmfdjpiaa
