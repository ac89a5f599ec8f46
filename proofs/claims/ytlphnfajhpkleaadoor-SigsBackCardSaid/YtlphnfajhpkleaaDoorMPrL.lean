/-
 groups.Product: what it answers.
-/
import Derived.Deep.Cut
import Derived.TacticsInMore
import Derived.Test.YtlphnfajhpkleaaDoorMApp
import Derived.Test.YtlphnfajhpkleaaDoorMGIn
import Derived.Test.YtlphnfajhpkleaaDoorMPx
import Derived.Test.YtlphnfajhpkleaaDoorMSc
import Derived.Test.YtlphnfajhpkleaaDoorMSmall
namespace Go.Proofs.YtlphnfajhpkleaaDoor
set_option maxRecDepth 100000
open Go.RowKit
set_option linter.unusedSimpArgs false
set_option linter.unusedVariables false
attribute [local go_sem ↓] Go.wp_at_zero Go.wp_at_succ

/-- what is gathered -/
def prodN (P:Nat) (zs:List NP):Nat:=zs.foldl (fun s x=>s*(x.1.1^x.1.2%P)%P) 1
theorem prodN_snoc (P:Nat) (pre:List NP) (x:NP):prodN P (pre++[x])=prodN P pre*(x.1.1^x.1.2%P)%P:=by simp [prodN]
theorem prodN_lt {P:Nat} (h:1<P) (zs:List NP):prodN P zs<P:=by
 have:∀ (zs:List NP) (s:Nat),s<P→zs.foldl (fun s x=>s*(x.1.1^x.1.2%P)%P) s<P:=by
  intro zs
  induction zs with
  | nil=>intro s hs;exact hs
  | cons x zs ih=>intro s _;exact ih _ (Nat.mod_lt _ (by omega))
 exact this zs 1 h
def mayAll (P:Nat) (zs:List NP):Bool:=zs.all fun x=>mayB P x.1.1
theorem Mem.cons {n0:Nat} {w0 w:World} {M:List (Nat × TypeId × Array Value)} (H:Mem n0 w0 w M) {g:Nat} {t:TypeId} {cs:Array Value} (hg:n0≤g) (h:At w g t cs) (hn:(g::M.map (·.1)).Nodup):Mem n0 w0 w ((g,t,cs)::M):=
 H.add hg (fun x hx e=>(List.nodup_cons.1 hn).1 (by rw [← e];exact List.mem_map_of_mem hx)) h
theorem at_own (g:Nat) (t:TypeId) (cs:Array Value):Own (fun (_:Unit) W=>At W g t cs):=by
 intro s A B row h hg hr
 refine (hg.block g h.lt (fun e=>?_)).trans h
 obtain ⟨o,ho,hc⟩:=hr g e.symm
 rw [show A.heap[g]? = _ from h] at ho
 cases ho;cases hc

set_option maxRecDepth 100000 in
set_option maxHeartbeats 8000000 in
theorem prod_good (P Q G H:Nat) (zs:List NP) (pa pb:Option Addr) (ca cb:Nat) (hP:P<2^256) (h1:1<P) (w0:World) (sA:NSl w0.heap.size w0 pa ca (zs.map (·.1.1))) (sN:NSl w0.heap.size w0 pb cb (zs.map (·.1.2))) :
  Calls Tryd.prog 25 #[grp P Q G H,.slice pa zs.length ca,.slice pb zs.length cb] w0 fun e w'=>e=.returned (if mayAll P zs then .tuple #[num (prodN P zs),.int .i64 0] else .tuple #[num 0,.int .i64 1])∧Below w0.heap.size w0 w':=by
 have h1k:=cmpN_pos h1
 have HS:=sA.1
 refine sx_enterM (args:=[grp P Q G H,.slice pa zs.length ca,.slice pb zs.length cb]) Tryd.func25 rfl Tryd.ntmps25 (by rfl) fun a0 F HM=>?_
 repeat first|refine et1 ?_|refine eb1 ?_|refine ws1 ?_|refine wb1 ?_|refine wk1 ?_
 refine wp_region_lit ?_
 refine lx_new F HM (wanted_none rfl _) rfl (by rfl) (o_boxG (F.ev rfl)) fun a w gr F HM=>?_
 refine lx_new F HM (wanted_none rfl _) rfl (by rfl) (o_allocN) fun a w go F HM=>?_
 refine lx_new F HM (wanted_none rfl _) rfl (by rfl) (o_allocE) fun a w ge F HM=>?_
 refine lx_nil ?_
 repeat first|refine et1 ?_|refine eb1 ?_|refine ws1 ?_|refine wb1 ?_|refine wk1 ?_
 refine wp_region_lit ?_
 refine lx_call F (wanted_none rfl _) rfl (by rfl) (run_callF Tryd.func30 (by kernel_rfl) (by rfl) (.cons rfl .nil) _) ((fun w=>of_any 1 (by decide) w) _) fun a w z F=>?_
 replace HM:=HM.on z
 clear z
 refine lx_new F HM (wanted_none rfl _) rfl (by rfl) (o_allocN) fun a w gl F HM=>?_
 refine lx_store F HM (wanted_none rfl _) rfl (k:=0) rfl (o_storeN (F.ev rfl) (F.ev rfl) (HM.get 0 rfl)) (M2:=[(gl,24,ncs 1),(ge,35,#[.int .i64 0]),(go,24,ncs 0),(gr,26,gcs P Q G H)]) rfl fun w HM=>?_
 refine lx_nil ?_
 repeat first|refine et1 ?_|refine eb1 ?_|refine ws1 ?_|refine wb1 ?_|refine wk1 ?_
 refine wp_region_lit ?_
 refine lxv (.pointer (some ⟨gr,0,none⟩)) F (o_fieldG0 (F.ev rfl)) fun a F=>?_
 refine lxv (num P) F (o_loadG0 (F.ev rfl) (HM.get 3 rfl)) fun a F=>?_
 refine lxv (num 1) F (o_loadN (F.ev rfl) (HM.get 0 rfl)) fun a F=>?_
 refine lx_call F (wanted_none rfl _) rfl (by rfl) (run_callF Tryd.func12 (by kernel_rfl) (by rfl) (.cons (F.ev rfl) (.cons (F.ev rfl) .nil)) _) ((fun w=>cmp_any P 1 hP (by decide) w) _) fun a w z F=>?_
 replace HM:=HM.on z
 clear z
 refine lxv (.bool false) F (o_bin (u:=.int .i64 (cmpN P 1)) (v:=.int .i64 0) (fun ρ hx hy=>by simp only [execOp,hx,hy];simp [go_sem];exact h1k) (F.ev rfl) rfl) fun a F=>?_
 refine lxv (.bool false) F (o_move (F.ev rfl)) fun a F=>?_
 refine lxw 19 false (.slice pa zs.length ca) F (o_move (F.ev rfl)) fun a F=>?_
 refine lxw 19 false (.int .i64 (zs.length:Nat)) F (o_len (F.ev rfl)) fun a F=>?_
 refine lxw 19 false (.slice pb zs.length cb) F (o_move (F.ev rfl)) fun a F=>?_
 refine lxw 19 false (.int .i64 (zs.length:Nat)) F (o_len (F.ev rfl)) fun a F=>?_
 refine lxw 19 false (.bool false) F (o_bin (u:=.int .i64 (zs.length:Nat)) (v:=.int .i64 (zs.length:Nat)) (fun ρ hx hy=>by simp only [execOp,hx,hy];simp [go_sem]) (F.ev rfl) (F.ev rfl)) fun a F=>?_
 refine lxv (.bool false) F (o_pick (F.ev rfl) rfl (F.ev rfl) rfl) fun a F=>?_
 refine lx_nil ?_
 repeat first|refine et1 ?_|refine eb1 ?_|refine ws1 ?_|refine wb1 ?_|refine wk1 ?_
 refine wp_cond_false (F.ev rfl) ?_
 repeat first|refine et1 ?_|refine eb1 ?_|refine ws1 ?_|refine wb1 ?_|refine wk1 ?_
 refine wp_region_lit ?_
 refine lxv (.slice pa zs.length ca) F (o_move (F.ev rfl)) fun a F=>?_
 refine lxv (.slice pb zs.length cb) F (o_move (F.ev rfl)) fun a F=>?_
 refine lx_call F (wanted_none rfl _) rfl (by rfl) (run_callF Tryd.func41 (by kernel_rfl) (by rfl) (.cons (F.ev rfl) (.cons (F.ev rfl) .nil)) _) (tog_any _ _ _ _ _ _ w) fun a w2 z F=>?_
 subst z
 have HA:=HM.new #[.slice pa zs.length ca] 47
 have HM:=HA.new #[.slice pb zs.length cb] 47
 rw [World.size_alloc] at HM
 have hgA:w.heap.size≠w.heap.size+1:=by omega
 obtain ⟨w3,hw3⟩:∃ w3,w3=(w.alloc (.cells #[.slice pa zs.length ca] 47)).alloc (.cells #[.slice pb zs.length cb] 47):=⟨_,rfl⟩
 have hsz:w3.heap.size=w.heap.size+1+1:=by rw [hw3];simp
 rw [← hw3] at HM ⊢
 clear hw3 HA
 generalize w.heap.size=gA at *
 refine lx_nil ?_
 repeat first|refine et1 ?_|refine eb1 ?_|refine ws1 ?_|refine wb1 ?_|refine wk1 ?_
 refine (wpIn_wide (n:=9)).1 ?_
 have hb3:Below w0.heap.size w0 w3:=HM.bel
 refine wpIn_rangeFunc_ownH rfl (by decide) (gf:=58) (lb:=#[.pointer (some ⟨gA,0,none⟩),.pointer (some ⟨gA+1,0,none⟩)]) (F.ev rfl) trivial (enters_of Tryd.func58 (by kernel_rfl) rfl)
  (tog_stops 8 (by decide) gA (gA+1) w0.heap.size _ _ ca cb zs w3 hb3.size (HM.get 1 rfl) (HM.get 0 rfl) (sA.below hb3) (sN.below hb3)) KP.trans ?Kb (Below.refl _ _) (fun _=>rfl)
  (fun pre W=>Mem w0.heap.size w0 W [(gA+1,47,#[.slice pb zs.length cb]),(gA,47,#[.slice pa zs.length ca]),(gl,24,ncs (prodN P pre)),(ge,35,#[.int .i64 0]),(go,24,ncs 0),(gr,26,gcs P Q G H)]∧∀ x∈pre,mayB P x.1.1=true)
  (fun c pre W=>c=.ret∧(∃ Y,Mem w0.heap.size w0 W [(gA+1,47,#[.slice pb zs.length cb]),(gA,47,#[.slice pa zs.length ca]),(gl,24,ncs (Y)),(ge,35,#[.int .i64 1]),(go,24,ncs 0),(gr,26,gcs P Q G H)])∧∃ x∈pre,mayB P x.1.1=false)
  ?hI ?hIx ⟨HM,fun _ h=>(by cases h)⟩
  (fun x a' W=>∃ gb gx,w0.heap.size≤gb∧w0.heap.size≤gx∧[gx,gb,gA+1,gA,gl,ge,go,gr].Nodup∧Fr a' 52 ((10,.pointer (some ⟨gx,0,none⟩))::(9,.pointer (some ⟨gb,0,none⟩))::[(25,.bool false),(7,.pointer (some ⟨ge,0,none⟩)),(6,.pointer (some ⟨go,0,none⟩)),(8,.pointer (some ⟨gl,0,none⟩)),(3,.pointer (some ⟨gr,0,none⟩))]) []∧At W gb 24 (ncs x.1.1)∧At W gx 24 (ncs x.1.2))
  ?hAx ?assign ?body ?done ?stop
 case Kb=>
  intro W l o o2 hl ho hc _
  refine ⟨(Below.refl _ _).grown (grownBy_putObj' W l o2) (Nat.le_trans hb3.size (Nat.le_trans hl (Nat.le_of_lt (Array.getElem?_eq_some_iff.1 ho).1))) (fun k e=>by cases e;exact Nat.le_trans hb3.size hl),fun hb=>World.putObj_heap_other (by omega)⟩
 case hI=>
  intro pre W W2 row h hg hr
  exact ⟨h.1.grown hg fun r e=>⟨Nat.le_trans hb3.size (hr r e).1,(hr r e).2⟩,h.2⟩
 case hIx=>
  rintro c pre W W2 row ⟨h1,⟨Y,h2⟩,h3⟩ hg hr
  exact ⟨h1,⟨Y,h2.grown hg fun r e=>⟨Nat.le_trans hb3.size (hr r e).1,(hr r e).2⟩⟩,h3⟩
 case hAx=>
  rintro x a2 u W W2 row ⟨gb,gx,h1,h2,h3,h4,h5,h6⟩ hg hr
  exact ⟨gb,gx,h1,h2,h3,h4,at_own gb _ _ () W W2 row h5 hg (fun r e=>(hr r e).2),at_own gx _ _ () W W2 row h6 hg (fun r e=>(hr r e).2)⟩
 case assign=>
  rintro lp pre x W K ⟨hM,hpre⟩ hK
  have F0:Fr { tmps:=((#[30,31]:Array Tmp).zip #[num x.1.1,num x.1.2]).foldl (fun t (p,v)=>t.setIfInBounds p v) a.tmps,defers:=[] } 52 ((31,num x.1.2)::(30,num x.1.1)::[(25,.bool false),(7,.pointer (some ⟨ge,0,none⟩)),(6,.pointer (some ⟨go,0,none⟩)),(8,.pointer (some ⟨gl,0,none⟩)),(3,.pointer (some ⟨gr,0,none⟩))]) []:=by
   have e:((#[30,31]:Array Tmp).zip #[num x.1.1,num x.1.2]).foldl (fun t (p,v)=>t.setIfInBounds p v) a.tmps=((a.put (some 30) (num x.1.1)).put (some 31) (num x.1.2)).tmps:=by simp [Act.put]
   have F2:=((F.sub [25,7,6,8,3]).put (num x.1.1) (d:=30) rfl).put (num x.1.2) (d:=31) rfl
   rw [e]
   exact ⟨F2.size,rfl,F2.get⟩
  generalize ({ tmps:=_,defers:=[] }:Act)=a3 at F0 ⊢
  have HM:=hM.again
  have hb4:Below w0.heap.size w0 W:=hM.bel
  have F:=F0
  repeat (first | refine ex_then ?_ | refine ex_block ?_ | refine wpIn_seq ?_ | refine wpIn_block ?_ | refine wpIn_skip ?_)
  refine wpIn_region_lit ?_
  refine lr_new F HM (fun _ h=>by cases h) (wanted_none rfl _) rfl (by rfl) (o_allocN) fun a w gb F HM=>?_
  refine lr_store F HM (fun _ h=>by cases h) (wanted_none rfl _) rfl (k:=0) rfl (o_storeN (F.ev rfl) (F.ev rfl) (HM.get 0 rfl)) (M2:=[(gb,24,ncs (x.1.1)),(gA+1,47,#[.slice pb zs.length cb]),(gA,47,#[.slice pa zs.length ca]),(gl,24,ncs (prodN P pre)),(ge,35,#[.int .i64 0]),(go,24,ncs 0),(gr,26,gcs P Q G H)]) rfl fun w HM=>?_
  refine lr_nil ?_
  repeat (first | refine ex_then ?_ | refine ex_block ?_ | refine wpIn_seq ?_ | refine wpIn_block ?_ | refine wpIn_skip ?_)
  refine wpIn_region_lit ?_
  refine lr_new F HM (fun _ h=>by cases h) (wanted_none rfl _) rfl (by rfl) (o_allocN) fun a w gx F HM=>?_
  refine lr_store F HM (fun _ h=>by cases h) (wanted_none rfl _) rfl (k:=0) rfl (o_storeN (F.ev rfl) (F.ev rfl) (HM.get 0 rfl)) (M2:=[(gx,24,ncs (x.1.2)),(gb,24,ncs (x.1.1)),(gA+1,47,#[.slice pb zs.length cb]),(gA,47,#[.slice pa zs.length ca]),(gl,24,ncs (prodN P pre)),(ge,35,#[.int .i64 0]),(go,24,ncs 0),(gr,26,gcs P Q G H)]) rfl fun w HM=>?_
  refine lr_nil ?_
  repeat (first | refine ex_then ?_ | refine ex_block ?_ | refine wpIn_seq ?_ | refine wpIn_block ?_ | refine wpIn_skip ?_)
  refine hK _ _ (HM.oth.from _) ⟨HM.bel,fun _=>(HM.get 2 rfl).trans (hM.get 0 rfl).symm⟩ ⟨hM.join (HM.drop 2),hpre⟩ ⟨gb,gx,HM.own _ (List.mem_cons_of_mem _ List.mem_cons_self),HM.own _ List.mem_cons_self,HM.nd,F.sub [10,9,25,7,6,8,3],HM.get 1 rfl,HM.get 0 rfl⟩
 case body=>
  rintro lp pre x a3 W hlp _ ⟨hM,hpre⟩ ⟨gb,gx,hgb,hgx,hnd,F,hab,hax⟩ _
  have HM:=(hM.again.cons hgb hab (List.nodup_cons.1 hnd).2).cons hgx hax hnd
  clear hab hax hnd hgb hgx
  rcases hm:mayB P x.1.1 with _ | _
  ·repeat (first | refine ex_then ?_ | refine ex_block ?_ | refine wpIn_seq ?_ | refine wpIn_block ?_ | refine wpIn_skip ?_)
   refine wpIn_region_lit ?_
   refine lr_value (v:=grp P Q G H) F (fun _ h=>by cases h) (wanted_none rfl _) rfl (by rfl) (o_loadG (F.ev rfl) (HM.get 7 rfl)) fun a F=>?_
   refine lr_value (v:=num (x.1.1)) F (fun _ h=>by cases h) (wanted_none rfl _) rfl (by rfl) (o_loadN (F.ev rfl) (HM.get 1 rfl)) fun a F=>?_
   refine lr_value (v:=num (x.1.2)) F (fun _ h=>by cases h) (wanted_none rfl _) rfl (by rfl) (o_loadN (F.ev rfl) (HM.get 0 rfl)) fun a F=>?_
   refine lr_call F (fun _ h=>by cases h) (wanted_none rfl _) rfl (by rfl) (run_callF Tryd.func9 (by kernel_rfl) (by rfl) (.cons (F.ev rfl) (.cons (F.ev rfl) (.cons (F.ev rfl) .nil))) _) ((gexp_no P Q G H x.1.1 x.1.2 hP x.2.1 hm) _) fun a w z F=>?_
   replace HM:=HM.on z
   clear z
   refine lr_value (v:=.tuple #[num 0,.int .i64 1]) F (fun _ h=>by cases h) (wanted_none rfl _) rfl (by rfl) (o_move (F.ev rfl)) fun a F=>?_
   refine lr_value (v:=num 0) F (fun _ h=>by cases h) (wanted_none rfl _) rfl (by rfl) (o_extract (F.ev rfl) rfl) fun a F=>?_
   refine lr_value (v:=.int .i64 1) F (fun _ h=>by cases h) (wanted_none rfl _) rfl (by rfl) (o_extract (F.ev rfl) rfl) fun a F=>?_
   refine lr_new F HM (fun _ h=>by cases h) (wanted_none rfl _) rfl (by rfl) (o_allocN) fun a w gp F HM=>?_
   refine lr_store F HM (fun _ h=>by cases h) (wanted_none rfl _) rfl (k:=0) rfl (o_storeN (F.ev rfl) (F.ev rfl) (HM.get 0 rfl)) (M2:=[(gp,24,ncs 0),(gx,24,ncs (x.1.2)),(gb,24,ncs (x.1.1)),(gA+1,47,#[.slice pb zs.length cb]),(gA,47,#[.slice pa zs.length ca]),(gl,24,ncs (prodN P pre)),(ge,35,#[.int .i64 0]),(go,24,ncs 0),(gr,26,gcs P Q G H)]) rfl fun w HM=>?_
   refine lr_value (v:=.int .i64 1) F (fun _ h=>by cases h) (wanted_none rfl _) rfl (by rfl) (o_assign (F.ev rfl)) fun a F=>?_
   refine lr_nil ?_
   repeat (first | refine ex_then ?_ | refine ex_block ?_ | refine wpIn_seq ?_ | refine wpIn_block ?_ | refine wpIn_skip ?_)
   refine wpIn_region_lit ?_
   refine lr_value (v:=.int .i64 1) F (fun _ h=>by cases h) (wanted_none rfl _) rfl (by rfl) (o_move (F.ev rfl)) fun a F=>?_
   refine lr_value (v:=.bool true) F (fun _ h=>by cases h) (wanted_none rfl _) rfl (by rfl) (o_bin (u:=.int .i64 1) (v:=.int .i64 0) (fun ρ hx hy=>by simp only [execOp,hx,hy];simp [go_sem]) (F.ev rfl) rfl) fun a F=>?_
   refine lr_nil ?_
   repeat (first | refine ex_then ?_ | refine ex_block ?_ | refine wpIn_seq ?_ | refine wpIn_block ?_ | refine wpIn_skip ?_)
   refine wpIn_cond_true (F.ev rfl) ?_
   repeat (first | refine ex_then ?_ | refine ex_block ?_ | refine wpIn_seq ?_ | refine wpIn_block ?_ | refine wpIn_skip ?_)
   refine wpIn_region_lit ?_
   refine lr_value (v:=num 0) F (fun _ h=>by cases h) (wanted_none rfl _) rfl (by rfl) (o_build0) fun a F=>?_
   refine lr_value (v:=.int .i64 1) F (fun _ h=>by cases h) (wanted_none rfl _) rfl (by rfl) (o_move (F.ev rfl)) fun a F=>?_
   refine lr_store F HM (fun _ h=>by cases h) (wanted_none rfl _) rfl (k:=7) rfl (o_storeN (F.ev rfl) (F.ev rfl) (HM.get 7 rfl)) (M2:=[(gp,24,ncs 0),(gx,24,ncs (x.1.2)),(gb,24,ncs (x.1.1)),(gA+1,47,#[.slice pb zs.length cb]),(gA,47,#[.slice pa zs.length ca]),(gl,24,ncs (prodN P pre)),(ge,35,#[.int .i64 0]),(go,24,ncs 0),(gr,26,gcs P Q G H)]) rfl fun w HM=>?_
   refine lr_store F HM (fun _ h=>by cases h) (wanted_none rfl _) rfl (k:=6) rfl (o_storeE (F.ev rfl) (F.ev rfl) (HM.get 6 rfl)) (M2:=[(gp,24,ncs 0),(gx,24,ncs (x.1.2)),(gb,24,ncs (x.1.1)),(gA+1,47,#[.slice pb zs.length cb]),(gA,47,#[.slice pa zs.length ca]),(gl,24,ncs (prodN P pre)),(ge,35,#[.int .i64 1]),(go,24,ncs 0),(gr,26,gcs P Q G H)]) rfl fun w HM=>?_
   refine lr_nil ?_
   repeat (first | refine ex_then ?_ | refine ex_block ?_ | refine wpIn_seq ?_ | refine wpIn_block ?_ | refine wpIn_skip ?_)
   refine wpIn_ret ?_
   repeat (first | refine ex_thenR ?_ | refine ex_blockR ?_)
   exact ⟨HM.oth.from _,rfl,⟨_,hM.join (HM.drop 3)⟩,x,by simp,hm⟩
  ·repeat (first | refine ex_then ?_ | refine ex_block ?_ | refine wpIn_seq ?_ | refine wpIn_block ?_ | refine wpIn_skip ?_)
   refine wpIn_region_lit ?_
   refine lr_value (v:=grp P Q G H) F (fun _ h=>by cases h) (wanted_none rfl _) rfl (by rfl) (o_loadG (F.ev rfl) (HM.get 7 rfl)) fun a F=>?_
   refine lr_value (v:=num (x.1.1)) F (fun _ h=>by cases h) (wanted_none rfl _) rfl (by rfl) (o_loadN (F.ev rfl) (HM.get 1 rfl)) fun a F=>?_
   refine lr_value (v:=num (x.1.2)) F (fun _ h=>by cases h) (wanted_none rfl _) rfl (by rfl) (o_loadN (F.ev rfl) (HM.get 0 rfl)) fun a F=>?_
   refine lr_call F (fun _ h=>by cases h) (wanted_none rfl _) rfl (by rfl) (run_callF Tryd.func9 (by kernel_rfl) (by rfl) (.cons (F.ev rfl) (.cons (F.ev rfl) (.cons (F.ev rfl) .nil))) _) ((gexp_yes P Q G H x.1.1 x.1.2 hP x.2.1 x.2.2 hm) _) fun a w z F=>?_
   replace HM:=HM.on z
   clear z
   refine lr_value (v:=.tuple #[num (x.1.1^x.1.2%P),.int .i64 0]) F (fun _ h=>by cases h) (wanted_none rfl _) rfl (by rfl) (o_move (F.ev rfl)) fun a F=>?_
   refine lr_value (v:=num (x.1.1^x.1.2%P)) F (fun _ h=>by cases h) (wanted_none rfl _) rfl (by rfl) (o_extract (F.ev rfl) rfl) fun a F=>?_
   refine lr_value (v:=.int .i64 0) F (fun _ h=>by cases h) (wanted_none rfl _) rfl (by rfl) (o_extract (F.ev rfl) rfl) fun a F=>?_
   refine lr_new F HM (fun _ h=>by cases h) (wanted_none rfl _) rfl (by rfl) (o_allocN) fun a w gp F HM=>?_
   refine lr_store F HM (fun _ h=>by cases h) (wanted_none rfl _) rfl (k:=0) rfl (o_storeN (F.ev rfl) (F.ev rfl) (HM.get 0 rfl)) (M2:=[(gp,24,ncs (x.1.1^x.1.2%P)),(gx,24,ncs (x.1.2)),(gb,24,ncs (x.1.1)),(gA+1,47,#[.slice pb zs.length cb]),(gA,47,#[.slice pa zs.length ca]),(gl,24,ncs (prodN P pre)),(ge,35,#[.int .i64 0]),(go,24,ncs 0),(gr,26,gcs P Q G H)]) rfl fun w HM=>?_
   refine lr_value (v:=.int .i64 0) F (fun _ h=>by cases h) (wanted_none rfl _) rfl (by rfl) (o_assign (F.ev rfl)) fun a F=>?_
   refine lr_nil ?_
   repeat (first | refine ex_then ?_ | refine ex_block ?_ | refine wpIn_seq ?_ | refine wpIn_block ?_ | refine wpIn_skip ?_)
   refine wpIn_region_lit ?_
   refine lr_value (v:=.int .i64 0) F (fun _ h=>by cases h) (wanted_none rfl _) rfl (by rfl) (o_move (F.ev rfl)) fun a F=>?_
   refine lr_value (v:=.bool false) F (fun _ h=>by cases h) (wanted_none rfl _) rfl (by rfl) (o_bin (u:=.int .i64 0) (v:=.int .i64 0) (fun ρ hx hy=>by simp only [execOp,hx,hy];simp [go_sem]) (F.ev rfl) rfl) fun a F=>?_
   refine lr_nil ?_
   repeat (first | refine ex_then ?_ | refine ex_block ?_ | refine wpIn_seq ?_ | refine wpIn_block ?_ | refine wpIn_skip ?_)
   refine wpIn_cond_false (F.ev rfl) ?_
   repeat (first | refine ex_then ?_ | refine ex_block ?_ | refine wpIn_seq ?_ | refine wpIn_block ?_ | refine wpIn_skip ?_)
   refine wpIn_region_lit ?_
   refine lr_value (v:=num (prodN P pre)) F (fun _ h=>by cases h) (wanted_none rfl _) rfl (by rfl) (o_loadN (F.ev rfl) (HM.get 5 rfl)) fun a F=>?_
   refine lr_value (v:=num (x.1.1^x.1.2%P)) F (fun _ h=>by cases h) (wanted_none rfl _) rfl (by rfl) (o_loadN (F.ev rfl) (HM.get 0 rfl)) fun a F=>?_
   refine lr_value (v:=.pointer (some ⟨gr,0,none⟩)) F (fun _ h=>by cases h) (wanted_none rfl _) rfl (by rfl) (o_fieldG0 (F.ev rfl)) fun a F=>?_
   refine lr_value (v:=num P) F (fun _ h=>by cases h) (wanted_none rfl _) rfl (by rfl) (o_loadG0 (F.ev rfl) (HM.get 8 rfl)) fun a F=>?_
   refine lr_call F (fun _ h=>by cases h) (wanted_none rfl _) rfl (by rfl) (run_callF Tryd.func29 (by kernel_rfl) (by rfl) (.cons (F.ev rfl) (.cons (F.ev rfl) (.cons (F.ev rfl) .nil))) _) ((mmul_yes (prodN P pre) (x.1.1^x.1.2%P) P hP h1 (prodN_lt h1 pre) (Nat.mod_lt _ (by omega))) _) fun a w z F=>?_
   replace HM:=HM.on z
   clear z
   refine lr_value (v:=.tuple #[num (prodN P pre*(x.1.1^x.1.2%P)%P),.int .i64 0]) F (fun _ h=>by cases h) (wanted_none rfl _) rfl (by rfl) (o_move (F.ev rfl)) fun a F=>?_
   refine lr_value (v:=num (prodN P pre*(x.1.1^x.1.2%P)%P)) F (fun _ h=>by cases h) (wanted_none rfl _) rfl (by rfl) (o_extract (F.ev rfl) rfl) fun a F=>?_
   refine lr_value (v:=.int .i64 0) F (fun _ h=>by cases h) (wanted_none rfl _) rfl (by rfl) (o_extract (F.ev rfl) rfl) fun a F=>?_
   refine lr_store F HM (fun _ h=>by cases h) (wanted_none rfl _) rfl (k:=5) rfl (o_storeN (F.ev rfl) (F.ev rfl) (HM.get 5 rfl)) (M2:=[(gp,24,ncs (x.1.1^x.1.2%P)),(gx,24,ncs (x.1.2)),(gb,24,ncs (x.1.1)),(gA+1,47,#[.slice pb zs.length cb]),(gA,47,#[.slice pa zs.length ca]),(gl,24,ncs (prodN P pre*(x.1.1^x.1.2%P)%P)),(ge,35,#[.int .i64 0]),(go,24,ncs 0),(gr,26,gcs P Q G H)]) rfl fun w HM=>?_
   refine lr_nil ?_
   repeat (first | refine ex_then ?_ | refine ex_block ?_ | refine wpIn_seq ?_ | refine wpIn_block ?_ | refine wpIn_skip ?_)
   refine ⟨HM.oth.from _,⟨HM.bel,fun _=>(HM.get 3 rfl).trans (hM.get 0 rfl).symm⟩,?_,fun y hy=>?_⟩
   ·rw [prodN_snoc];exact hM.join (HM.drop 3)
   ·rcases List.mem_append.1 hy with hy | hy
    ·exact hpre y hy
    ·rw [List.mem_singleton.1 hy];exact hm
 case done=>
  rintro D ys W hD hys ⟨hM,hall⟩ hK
  rw [hys] at hM hall
  clear hys
  have F1:=F.sub [25,7,6,8,3]
  have F2:Fr { a with defers:={ target:=.collected D,args:=#[] }::a.defers } 52 [(25,.bool false),(7,.pointer (some ⟨ge,0,none⟩)),(6,.pointer (some ⟨go,0,none⟩)),(8,.pointer (some ⟨gl,0,none⟩)),(3,.pointer (some ⟨gr,0,none⟩))] [{ target:=.collected D,args:=#[] }]:=⟨F1.size,by simp [F1.defers],F1.get⟩
  generalize ({ a with defers:=_ }:Act)=a5 at F2 ⊢
  have HM:=hM.again
  replace F:=F2
  repeat first|refine et1 ?_|refine eb1 ?_|refine ws1 ?_|refine wb1 ?_|refine wk1 ?_
  refine wp_region_lit ?_
  refine lxv (num (prodN P zs)) F (o_loadN (F.ev rfl) (HM.get 2 rfl)) fun a F=>?_
  refine lx_store F HM (wanted_none rfl _) rfl (k:=4) rfl (o_storeN (F.ev rfl) (F.ev rfl) (HM.get 4 rfl)) (M2:=[(gA+1,47,#[.slice pb zs.length cb]),(gA,47,#[.slice pa zs.length ca]),(gl,24,ncs (prodN P zs)),(ge,35,#[.int .i64 0]),(go,24,ncs (prodN P zs)),(gr,26,gcs P Q G H)]) rfl fun w HM=>?_
  refine lx_store F HM (wanted_none rfl _) rfl (k:=3) rfl (o_storeE (F.ev rfl) rfl (HM.get 3 rfl)) (M2:=[(gA+1,47,#[.slice pb zs.length cb]),(gA,47,#[.slice pa zs.length ca]),(gl,24,ncs (prodN P zs)),(ge,35,#[.int .i64 0]),(go,24,ncs (prodN P zs)),(gr,26,gcs P Q G H)]) rfl fun w HM=>?_
  refine lx_nil ?_
  repeat first|refine et1 ?_|refine eb1 ?_|refine ws1 ?_|refine wb1 ?_|refine wk1 ?_
  refine wp_ret ?_
  repeat (first | refine ex_thenR ?_ | refine ex_blockR ?_)
  have hKw:=HM.oth.same D _ hK rfl
  have HG:=(hM.join HM).grown (grownBy_putObj' w D (.deferred none)) (fun r e=>by cases e;exact ⟨Nat.le_trans hb3.size hD,_,hKw,rfl⟩)
  show LeavesInM Fence.wide 9 _ _ _ _ _ _ _
  rw [F.defers]
  refine ⟨by simp,.inl ⟨_,_,rfl,run_takeDeferred hKw,?_⟩⟩
  exact ⟨_,res_NE F (s:=6) (t:=7) rfl rfl rfl (HG.get 4 rfl) (HG.get 3 rfl),by rw [if_pos (show mayAll P zs=true from List.all_eq_true.2 hall)],HG.bel⟩
 case stop=>
  rintro D c pre W hD hpre ⟨rfl,⟨Y,hM⟩,x,hx,hm⟩ hK
  have F1:=F.sub [25,7,6,8,3]
  have F2:Fr { a with defers:={ target:=.collected D,args:=#[] }::a.defers } 52 [(25,.bool false),(7,.pointer (some ⟨ge,0,none⟩)),(6,.pointer (some ⟨go,0,none⟩)),(8,.pointer (some ⟨gl,0,none⟩)),(3,.pointer (some ⟨gr,0,none⟩))] [{ target:=.collected D,args:=#[] }]:=⟨F1.size,by simp [F1.defers],F1.get⟩
  generalize ({ a with defers:=_ }:Act)=a5 at F2 ⊢
  have HM:=hM.again
  replace F:=F2
  obtain ⟨w,hw⟩:∃ w,w=W:=⟨_,rfl⟩
  rw [← hw] at HM hM hK ⊢
  refine wpIn_ret ?_
  repeat (first | refine ex_thenR ?_ | refine ex_blockR ?_)
  have hKw:=HM.oth.same D _ hK rfl
  have HG:=(hM.join HM).grown (grownBy_putObj' w D (.deferred none)) (fun r e=>by cases e;exact ⟨Nat.le_trans hb3.size hD,_,hKw,rfl⟩)
  show LeavesInM Fence.wide 9 _ _ _ _ _ _ _
  rw [F.defers]
  refine ⟨by simp,.inl ⟨_,_,rfl,run_takeDeferred hKw,?_⟩⟩
  exact ⟨_,res_NE F (s:=6) (t:=7) rfl rfl rfl (HG.get 4 rfl) (HG.get 3 rfl),by rw [if_neg (show ¬ mayAll P zs=true from fun h=>by have h2:=List.all_eq_true.1 h x (hpre.subset hx);rw [hm] at h2;cases h2)],HG.bel⟩

end Go.Proofs.YtlphnfajhpkleaaDoor

/-
 groups.Product: what it refuses.
-/
namespace Go.Proofs.YtlphnfajhpkleaaDoor
set_option maxRecDepth 100000
open Go.RowKit
set_option linter.unusedSimpArgs false
set_option linter.unusedVariables false
set_option maxRecDepth 100000 in
set_option maxHeartbeats 8000000 in
theorem prod_low (P Q G H la ca lb cb:Nat) (pa pb:Option Addr) (hP:P<2^256) (hk:cmpN P 1≤0) (w:World):Calls Tryd.prog 25 #[grp P Q G H,.slice pa la ca,.slice pb lb cb] w fun e w'=>e=.returned (.tuple #[num 0,.int .i64 1])∧Below w.heap.size w w':=by
 refine sx_enter (args:=[grp P Q G H,.slice pa la ca,.slice pb lb cb]) Tryd.func25 rfl Tryd.ntmps25 (by rfl) fun a F HM=>?_
 repeat first|refine et1 ?_|refine eb1 ?_|refine ws1 ?_|refine wb1 ?_|refine wk1 ?_
 refine wp_region_lit ?_
 refine lx_new F HM (wanted_none rfl _) rfl (by rfl) (o_boxG (F.ev rfl)) fun a w gr F HM=>?_
 refine lx_new F HM (wanted_none rfl _) rfl (by rfl) (o_allocN) fun a w go F HM=>?_
 refine lx_new F HM (wanted_none rfl _) rfl (by rfl) (o_allocE) fun a w ge F HM=>?_
 refine lx_nil ?_
 repeat first|refine et1 ?_|refine eb1 ?_|refine ws1 ?_|refine wb1 ?_|refine wk1 ?_
 refine wp_region_lit ?_
 refine lx_call F (wanted_none rfl _) rfl (by rfl) (run_callF Tryd.func30 (by kernel_rfl) (by rfl) (.cons rfl .nil) _) ((fun w=>of_any 1 (by decide) w) _) fun a w z F=>?_
 replace HM:=HM.on z
 clear z
 refine lx_new F HM (wanted_none rfl _) rfl (by rfl) (o_allocN) fun a w gl F HM=>?_
 refine lx_store F HM (wanted_none rfl _) rfl (k:=0) rfl (o_storeN (F.ev rfl) (F.ev rfl) (HM.get 0 rfl)) (M2:=[(gl,24,ncs 1),(ge,35,#[.int .i64 0]),(go,24,ncs 0),(gr,26,gcs P Q G H)]) rfl fun w HM=>?_
 refine lx_nil ?_
 repeat first|refine et1 ?_|refine eb1 ?_|refine ws1 ?_|refine wb1 ?_|refine wk1 ?_
 refine wp_region_lit ?_
 refine lxv (.pointer (some ⟨gr,0,none⟩)) F (o_fieldG0 (F.ev rfl)) fun a F=>?_
 refine lxv (num P) F (o_loadG0 (F.ev rfl) (HM.get 3 rfl)) fun a F=>?_
 refine lxv (num 1) F (o_loadN (F.ev rfl) (HM.get 0 rfl)) fun a F=>?_
 refine lx_call F (wanted_none rfl _) rfl (by rfl) (run_callF Tryd.func12 (by kernel_rfl) (by rfl) (.cons (F.ev rfl) (.cons (F.ev rfl) .nil)) _) ((fun w=>cmp_any P 1 hP (by decide) w) _) fun a w z F=>?_
 replace HM:=HM.on z
 clear z
 refine lxv (.bool true) F (o_bin (u:=.int .i64 (cmpN P 1)) (v:=.int .i64 0) (fun ρ hx hy=>by simp only [execOp,hx,hy];simp [go_sem];exact hk) (F.ev rfl) rfl) fun a F=>?_
 refine lxv (.bool true) F (o_move (F.ev rfl)) fun a F=>?_
 refine lxp 19 true F fun a F=>?_
 refine lxp 19 true F fun a F=>?_
 refine lxp 19 true F fun a F=>?_
 refine lxp 19 true F fun a F=>?_
 refine lxp 19 true F fun a F=>?_
 refine lxv (.bool true) F (o_pick (b:=true) (r:=.bool true) (F.ev rfl) rfl (F.ev rfl) rfl) fun a F=>?_
 refine lx_nil ?_
 repeat first|refine et1 ?_|refine eb1 ?_|refine ws1 ?_|refine wb1 ?_|refine wk1 ?_
 refine wp_cond_true (F.ev rfl) ?_
 repeat first|refine et1 ?_|refine eb1 ?_|refine ws1 ?_|refine wb1 ?_|refine wk1 ?_
 refine wp_region_lit ?_
 refine lxv (num 0) F (o_build0) fun a F=>?_
 refine lx_store F HM (wanted_none rfl _) rfl (k:=2) rfl (o_storeN (F.ev rfl) (F.ev rfl) (HM.get 2 rfl)) (M2:=[(gl,24,ncs 1),(ge,35,#[.int .i64 0]),(go,24,ncs 0),(gr,26,gcs P Q G H)]) rfl fun w HM=>?_
 refine lx_store F HM (wanted_none rfl _) rfl (k:=1) rfl (o_storeE (F.ev rfl) rfl (HM.get 1 rfl)) (M2:=[(gl,24,ncs 1),(ge,35,#[.int .i64 1]),(go,24,ncs 0),(gr,26,gcs P Q G H)]) rfl fun w HM=>?_
 refine lx_nil ?_
 repeat first|refine et1 ?_|refine eb1 ?_|refine ws1 ?_|refine wb1 ?_|refine wk1 ?_
 refine wp_ret ?_
 repeat (first | refine ex_thenR ?_ | refine ex_blockR ?_)
 exact sx_ret F HM (res_NE F (s:=6) (t:=7) rfl rfl rfl (HM.get 2 rfl) (HM.get 1 rfl))

set_option maxRecDepth 100000 in
set_option maxHeartbeats 8000000 in
theorem prod_len (P Q G H la ca lb cb:Nat) (pa pb:Option Addr) (hP:P<2^256) (hk:0<cmpN P 1) (hl:¬ la=lb) (w:World):Calls Tryd.prog 25 #[grp P Q G H,.slice pa la ca,.slice pb lb cb] w fun e w'=>e=.returned (.tuple #[num 0,.int .i64 1])∧Below w.heap.size w w':=by
 refine sx_enter (args:=[grp P Q G H,.slice pa la ca,.slice pb lb cb]) Tryd.func25 rfl Tryd.ntmps25 (by rfl) fun a F HM=>?_
 repeat first|refine et1 ?_|refine eb1 ?_|refine ws1 ?_|refine wb1 ?_|refine wk1 ?_
 refine wp_region_lit ?_
 refine lx_new F HM (wanted_none rfl _) rfl (by rfl) (o_boxG (F.ev rfl)) fun a w gr F HM=>?_
 refine lx_new F HM (wanted_none rfl _) rfl (by rfl) (o_allocN) fun a w go F HM=>?_
 refine lx_new F HM (wanted_none rfl _) rfl (by rfl) (o_allocE) fun a w ge F HM=>?_
 refine lx_nil ?_
 repeat first|refine et1 ?_|refine eb1 ?_|refine ws1 ?_|refine wb1 ?_|refine wk1 ?_
 refine wp_region_lit ?_
 refine lx_call F (wanted_none rfl _) rfl (by rfl) (run_callF Tryd.func30 (by kernel_rfl) (by rfl) (.cons rfl .nil) _) ((fun w=>of_any 1 (by decide) w) _) fun a w z F=>?_
 replace HM:=HM.on z
 clear z
 refine lx_new F HM (wanted_none rfl _) rfl (by rfl) (o_allocN) fun a w gl F HM=>?_
 refine lx_store F HM (wanted_none rfl _) rfl (k:=0) rfl (o_storeN (F.ev rfl) (F.ev rfl) (HM.get 0 rfl)) (M2:=[(gl,24,ncs 1),(ge,35,#[.int .i64 0]),(go,24,ncs 0),(gr,26,gcs P Q G H)]) rfl fun w HM=>?_
 refine lx_nil ?_
 repeat first|refine et1 ?_|refine eb1 ?_|refine ws1 ?_|refine wb1 ?_|refine wk1 ?_
 refine wp_region_lit ?_
 refine lxv (.pointer (some ⟨gr,0,none⟩)) F (o_fieldG0 (F.ev rfl)) fun a F=>?_
 refine lxv (num P) F (o_loadG0 (F.ev rfl) (HM.get 3 rfl)) fun a F=>?_
 refine lxv (num 1) F (o_loadN (F.ev rfl) (HM.get 0 rfl)) fun a F=>?_
 refine lx_call F (wanted_none rfl _) rfl (by rfl) (run_callF Tryd.func12 (by kernel_rfl) (by rfl) (.cons (F.ev rfl) (.cons (F.ev rfl) .nil)) _) ((fun w=>cmp_any P 1 hP (by decide) w) _) fun a w z F=>?_
 replace HM:=HM.on z
 clear z
 refine lxv (.bool false) F (o_bin (u:=.int .i64 (cmpN P 1)) (v:=.int .i64 0) (fun ρ hx hy=>by simp only [execOp,hx,hy];simp [go_sem];exact hk) (F.ev rfl) rfl) fun a F=>?_
 refine lxv (.bool false) F (o_move (F.ev rfl)) fun a F=>?_
 refine lxw 19 false (.slice pa la ca) F (o_move (F.ev rfl)) fun a F=>?_
 refine lxw 19 false (.int .i64 (la:Nat)) F (o_len (F.ev rfl)) fun a F=>?_
 refine lxw 19 false (.slice pb lb cb) F (o_move (F.ev rfl)) fun a F=>?_
 refine lxw 19 false (.int .i64 (lb:Nat)) F (o_len (F.ev rfl)) fun a F=>?_
 refine lxw 19 false (.bool true) F (o_bin (u:=.int .i64 (la:Nat)) (v:=.int .i64 (lb:Nat)) (fun ρ hx hy=>by simp only [execOp,hx,hy];simp [go_sem];omega) (F.ev rfl) (F.ev rfl)) fun a F=>?_
 refine lxv (.bool true) F (o_pick (b:=false) (r:=.bool true) (F.ev rfl) rfl (F.ev rfl) rfl) fun a F=>?_
 refine lx_nil ?_
 repeat first|refine et1 ?_|refine eb1 ?_|refine ws1 ?_|refine wb1 ?_|refine wk1 ?_
 refine wp_cond_true (F.ev rfl) ?_
 repeat first|refine et1 ?_|refine eb1 ?_|refine ws1 ?_|refine wb1 ?_|refine wk1 ?_
 refine wp_region_lit ?_
 refine lxv (num 0) F (o_build0) fun a F=>?_
 refine lx_store F HM (wanted_none rfl _) rfl (k:=2) rfl (o_storeN (F.ev rfl) (F.ev rfl) (HM.get 2 rfl)) (M2:=[(gl,24,ncs 1),(ge,35,#[.int .i64 0]),(go,24,ncs 0),(gr,26,gcs P Q G H)]) rfl fun w HM=>?_
 refine lx_store F HM (wanted_none rfl _) rfl (k:=1) rfl (o_storeE (F.ev rfl) rfl (HM.get 1 rfl)) (M2:=[(gl,24,ncs 1),(ge,35,#[.int .i64 1]),(go,24,ncs 0),(gr,26,gcs P Q G H)]) rfl fun w HM=>?_
 refine lx_nil ?_
 repeat first|refine et1 ?_|refine eb1 ?_|refine ws1 ?_|refine wb1 ?_|refine wk1 ?_
 refine wp_ret ?_
 repeat (first | refine ex_thenR ?_ | refine ex_blockR ?_)
 exact sx_ret F HM (res_NE F (s:=6) (t:=7) rfl rfl rfl (HM.get 2 rfl) (HM.get 1 rfl))

end Go.Proofs.YtlphnfajhpkleaaDoor
