/-
 sigs: exponents,challenges.
-/
import Derived.Deep.Cut
import Derived.Test.YtlphnfajhpkleaaDoorMSg1
import Derived.Test.YtlphnfajhpkleaaDoorMSmall
namespace Go.Proofs.YtlphnfajhpkleaaDoor
set_option maxRecDepth 100000
open Go.RowKit
set_option linter.unusedSimpArgs false
set_option linter.unusedVariables false
attribute [local go_sem ↓] Go.wp_at_zero Go.wp_at_succ

set_option maxRecDepth 100000 in
set_option maxHeartbeats 800000 in
theorem areS_any (P Q G H n cap:Nat) (pa:Option Addr) (xs:List Nat) (w0:World) (hQ:Q<2^256) (r:RN w0.heap.size w0 pa n cap xs):Calls Tryd.prog 22 #[grp P Q G H,.slice pa n cap] w0 fun e w'=>e=.returned (.bool (expB Q xs))∧Below w0.heap.size w0 w':=by
 refine sx_enter (args:=[grp P Q G H,.slice pa n cap]) Tryd.func22 rfl Tryd.ntmps22 (by rfl) fun a F HM=>?_
 repeat (first | refine ex_then ?_ | refine ex_block ?_ | refine wp_seq ?_ | refine wp_block ?_ | refine wp_skip ?_)
 refine wp_region_lit ?_
 refine lx_new F HM (wanted_none rfl _) rfl (by rfl) (o_boxG (F.ev rfl)) fun a w gg F HM=>?_
 refine lx_value (v:=.bool false) F (wanted_none rfl _) rfl (by rfl) (o_assign rfl) fun a F=>?_
 refine lx_nil ?_
 repeat (first | refine ex_then ?_ | refine ex_block ?_ | refine wp_seq ?_ | refine wp_block ?_ | refine wp_skip ?_)
 refine wp_region_lit ?_
 refine lx_value (v:=.slice pa n cap) F (wanted_none rfl _) rfl (by rfl) (o_move (F.ev rfl)) fun a F=>?_
 refine lx_value (v:=.int .i64 (n:Nat)) F (wanted_none rfl _) rfl (by rfl) (o_len (F.ev rfl)) fun a F=>?_
 refine lx_value (v:=.int .i64 0) F (wanted_none rfl _) rfl (by rfl) (o_move rfl) fun a F=>?_
 refine lx_nil ?_
 repeat (first | refine ex_then ?_ | refine ex_block ?_ | refine wp_seq ?_ | refine wp_block ?_ | refine wp_skip ?_)
 refine wp_loop (fun a w=>∃ i:Nat,i≤n∧Fr a 25 [(11,.int .i64 (i:Nat)),(9,.slice pa n cap),(10,.int .i64 (n:Nat)),(2,.pointer (some ⟨gg,0,none⟩))] []∧Mem w0.heap.size w0 w [(gg,26,gcs P Q G H)]∧expB Q (xs.take i)=true) (fun a _=>n-(intOf (a.tmps.getD 11 undef)).toNat) ⟨0,Nat.zero_le _,F.sub [11,9,10,2],HM,by simp [expB]⟩ ?_
 clear F HM
 rintro aS wS ⟨i,hi,FS,HM,HE⟩
 have F:=FS
 by_cases hlt:i<n
 ·repeat (first | refine ex_then ?_ | refine ex_block ?_ | refine wp_seq ?_ | refine wp_block ?_ | refine wp_skip ?_)
  refine wp_region_lit ?_
  refine lx_value (v:=.bool true) F (wanted_none rfl _) rfl (by rfl) (o_bin (u:=.int .i64 (i:Nat)) (v:=.int .i64 (n:Nat)) (fun ρ hx hy=>by simp only [execOp,hx,hy];simp [go_sem];omega) (F.ev rfl) (F.ev rfl)) fun a F=>?_
  refine lx_nil ?_
  repeat (first | refine ex_then ?_ | refine ex_block ?_ | refine wp_seq ?_ | refine wp_block ?_ | refine wp_skip ?_)
  refine wp_cond_true (F.ev rfl) ?_
  obtain ⟨gl,ol,rfl,hil,hxb,hc⟩:=r.get hlt
  have htk:xs.take (i+1)=xs.take i++[xs[i]]:=List.take_succ_eq_append_getElem hil
  generalize xs[i]=x at *
  repeat (first | refine ex_then ?_ | refine ex_block ?_ | refine wp_seq ?_ | refine wp_block ?_ | refine wp_skip ?_)
  refine wp_region_lit ?_
  refine lx_value (v:=.pointer (some ⟨gl,ol+i*4,none⟩)) F (wanted_none rfl _) rfl (by rfl) (o_idxN hlt (F.ev rfl) (F.ev rfl)) fun a F=>?_
  refine lx_value (v:=num x) F (wanted_none rfl _) rfl (by rfl) (o_loadC (F.ev rfl) (hc _ HM.bel)) fun a F=>?_
  refine lx_new F HM (wanted_none rfl _) rfl (by rfl) (o_allocN) fun a w gx F HM=>?_
  refine lx_store F HM (wanted_none rfl _) rfl (k:=0) rfl (o_storeN (F.ev rfl) (F.ev rfl) (HM.get 0 rfl)) (M2:=[(gx,24,ncs x),(gg,26,gcs P Q G H)]) (rfl) fun w HM=>?_
  refine lx_nil ?_
  by_cases hgd:1<Q∧x<Q
  ·repeat (first | refine ex_then ?_ | refine ex_block ?_ | refine wp_seq ?_ | refine wp_block ?_ | refine wp_skip ?_)
   refine wp_region_lit ?_
   refine lx_value (v:=grp P Q G H) F (wanted_none rfl _) rfl (by rfl) (o_loadG (F.ev rfl) (HM.get 1 rfl)) fun a F=>?_
   refine lx_value (v:=num x) F (wanted_none rfl _) rfl (by rfl) (o_loadN (F.ev rfl) (HM.get 0 rfl)) fun a F=>?_
   refine lx_value (v:=num 0) F (wanted_none rfl _) rfl (by rfl) (o_build0) fun a F=>?_
   refine lx_call F (wanted_none rfl _) rfl (by rfl) (run_callF Tryd.func17 (by kernel_rfl) (by rfl) (.cons (F.ev rfl) (.cons (F.ev rfl) (.cons (F.ev rfl) .nil))) _) ((sadd_yes P Q G H x 0 hQ hgd.1 hgd.2 (by omega)) _) fun a w z F=>?_
   replace HM:=HM.on z
   clear z
   refine lx_value (v:=.tuple #[num (((x+0)%Q)),.int .i64 0]) F (wanted_none rfl _) rfl (by rfl) (o_move (F.ev rfl)) fun a F=>?_
   refine lx_value (v:=num (((x+0)%Q))) F (wanted_none rfl _) rfl (by rfl) (o_extract (F.ev rfl) rfl) fun a F=>?_
   refine lx_value (v:=.int .i64 0) F (wanted_none rfl _) rfl (by rfl) (o_extract (F.ev rfl) rfl) fun a F=>?_
   refine lx_new F HM (wanted_none rfl _) rfl (by rfl) (o_allocN) fun a w gv F HM=>?_
   refine lx_store F HM (wanted_none rfl _) rfl (k:=0) rfl (o_storeN (F.ev rfl) (F.ev rfl) (HM.get 0 rfl)) (M2:=[(gv,24,ncs (((x+0)%Q))),(gx,24,ncs x),(gg,26,gcs P Q G H)]) (rfl) fun w HM=>?_
   refine lx_value (v:=.int .i64 0) F (wanted_none rfl _) rfl (by rfl) (o_assign (F.ev rfl)) fun a F=>?_
   refine lx_nil ?_
   repeat (first | refine ex_then ?_ | refine ex_block ?_ | refine wp_seq ?_ | refine wp_block ?_ | refine wp_skip ?_)
   refine wp_region_lit ?_
   refine lx_value (v:=.int .i64 0) F (wanted_none rfl _) rfl (by rfl) (o_move (F.ev rfl)) fun a F=>?_
   refine lx_value (v:=.bool false) F (wanted_none rfl _) rfl (by rfl) (o_bin (u:=.int .i64 0) (v:=.int .i64 0) (fun ρ hx hy=>by simp only [execOp,hx,hy];simp [go_sem]) (F.ev rfl) rfl) fun a F=>?_
   refine lx_nil ?_
   repeat (first | refine ex_then ?_ | refine ex_block ?_ | refine wp_seq ?_ | refine wp_block ?_ | refine wp_skip ?_)
   refine wp_cond_false (F.ev rfl) ?_
   repeat (first | refine ex_then ?_ | refine ex_block ?_ | refine wp_seq ?_ | refine wp_block ?_ | refine wp_skip ?_)
   refine wp_region_lit ?_
   refine lx_value (v:=.int .i64 ((i+1:Nat):Int)) F (wanted_none rfl _) rfl (by rfl) (o_bin (u:=.int .i64 (i:Nat)) (v:=.int .i64 1) (fun ρ hx hy=>by simp only [execOp,hx,hy];simp [go_sem,r.room hlt]) (F.ev rfl) rfl) fun a F=>?_
   refine lx_value (v:=.int .i64 ((i+1:Nat):Int)) F (wanted_none rfl _) rfl (by rfl) (o_move (F.ev rfl)) fun a F=>?_
   refine lx_nil ?_
   replace HM:=HM.erase 0 (M2:=[(gx,24,ncs x),(gg,26,gcs P Q G H)]) rfl
   replace HM:=HM.erase 0 (M2:=[(gg,26,gcs P Q G H)]) rfl
   refine ex_then ?_
   refine ⟨⟨i+1,by omega,F.sub [11,9,10,2],HM,?_⟩,?_⟩
   ·rw [htk];unfold expB at HE ⊢;rw [List.all_append,HE];simp [hgd]
   ·show n-(intOf (a.tmps.getD 11 undef)).toNat<n-(intOf (aS.tmps.getD 11 undef)).toNat
    rw [F.get 11 _ rfl,FS.get 11 _ rfl]
    show n-((i+1:Nat):Int).toNat<n-((i:Nat):Int).toNat
    omega
  ·repeat (first | refine ex_then ?_ | refine ex_block ?_ | refine wp_seq ?_ | refine wp_block ?_ | refine wp_skip ?_)
   refine wp_region_lit ?_
   refine lx_value (v:=grp P Q G H) F (wanted_none rfl _) rfl (by rfl) (o_loadG (F.ev rfl) (HM.get 1 rfl)) fun a F=>?_
   refine lx_value (v:=num x) F (wanted_none rfl _) rfl (by rfl) (o_loadN (F.ev rfl) (HM.get 0 rfl)) fun a F=>?_
   refine lx_value (v:=num 0) F (wanted_none rfl _) rfl (by rfl) (o_build0) fun a F=>?_
   refine lx_call F (wanted_none rfl _) rfl (by rfl) (run_callF Tryd.func17 (by kernel_rfl) (by rfl) (.cons (F.ev rfl) (.cons (F.ev rfl) (.cons (F.ev rfl) .nil))) _) ((sadd_no P Q G H x 0 hQ hxb (by decide) (fun h=>hgd ⟨h.1,h.2.1⟩)) _) fun a w z F=>?_
   replace HM:=HM.on z
   clear z
   refine lx_value (v:=.tuple #[num 0,.int .i64 1]) F (wanted_none rfl _) rfl (by rfl) (o_move (F.ev rfl)) fun a F=>?_
   refine lx_value (v:=num 0) F (wanted_none rfl _) rfl (by rfl) (o_extract (F.ev rfl) rfl) fun a F=>?_
   refine lx_value (v:=.int .i64 1) F (wanted_none rfl _) rfl (by rfl) (o_extract (F.ev rfl) rfl) fun a F=>?_
   refine lx_new F HM (wanted_none rfl _) rfl (by rfl) (o_allocN) fun a w gv F HM=>?_
   refine lx_store F HM (wanted_none rfl _) rfl (k:=0) rfl (o_storeN (F.ev rfl) (F.ev rfl) (HM.get 0 rfl)) (M2:=[(gv,24,ncs 0),(gx,24,ncs x),(gg,26,gcs P Q G H)]) (rfl) fun w HM=>?_
   refine lx_value (v:=.int .i64 1) F (wanted_none rfl _) rfl (by rfl) (o_assign (F.ev rfl)) fun a F=>?_
   refine lx_nil ?_
   repeat (first | refine ex_then ?_ | refine ex_block ?_ | refine wp_seq ?_ | refine wp_block ?_ | refine wp_skip ?_)
   refine wp_region_lit ?_
   refine lx_value (v:=.int .i64 1) F (wanted_none rfl _) rfl (by rfl) (o_move (F.ev rfl)) fun a F=>?_
   refine lx_value (v:=.bool true) F (wanted_none rfl _) rfl (by rfl) (o_bin (u:=.int .i64 1) (v:=.int .i64 0) (fun ρ hx hy=>by simp only [execOp,hx,hy];simp [go_sem]) (F.ev rfl) rfl) fun a F=>?_
   refine lx_nil ?_
   repeat (first | refine ex_then ?_ | refine ex_block ?_ | refine wp_seq ?_ | refine wp_block ?_ | refine wp_skip ?_)
   refine wp_cond_true (F.ev rfl) ?_
   repeat (first | refine ex_then ?_ | refine ex_block ?_ | refine wp_seq ?_ | refine wp_block ?_ | refine wp_skip ?_)
   refine wp_region_lit ?_
   refine lx_value (v:=.bool false) F (wanted_none rfl _) rfl (by rfl) (o_assign rfl) fun a F=>?_
   refine lx_nil ?_
   have hV:expB Q xs=false:=by
    rw [← List.take_append_drop (i+1) xs,htk];unfold expB;rw [List.all_append,List.all_append];simp [hgd]
   rw [hV]
   repeat (first | refine ex_then ?_ | refine ex_block ?_ | refine wp_seq ?_ | refine wp_block ?_ | refine wp_skip ?_)
   refine wp_ret ?_
   repeat (first | refine ex_thenR ?_ | refine ex_blockR ?_)
   exact sx_ret F HM (res_tmp F rfl (s:=4) rfl)
 ·repeat (first | refine ex_then ?_ | refine ex_block ?_ | refine wp_seq ?_ | refine wp_block ?_ | refine wp_skip ?_)
  refine wp_region_lit ?_
  refine lx_value (v:=.bool false) F (wanted_none rfl _) rfl (by rfl) (o_bin (u:=.int .i64 (i:Nat)) (v:=.int .i64 (n:Nat)) (fun ρ hx hy=>by simp only [execOp,hx,hy];simp [go_sem];omega) (F.ev rfl) (F.ev rfl)) fun a F=>?_
  refine lx_nil ?_
  repeat (first | refine ex_then ?_ | refine ex_block ?_ | refine wp_seq ?_ | refine wp_block ?_ | refine wp_skip ?_)
  refine wp_cond_false (F.ev rfl) ?_
  repeat (first | refine ex_then ?_ | refine ex_block ?_ | refine wp_seq ?_ | refine wp_block ?_ | refine wp_skip ?_)
  refine wp_exit ?_
  repeat (first | refine ex_thenE ?_ | refine ex_blockE ?_)
  have hV:expB Q xs=true:=by rw [← HE,List.take_of_length_le (by have:=r.1;omega)]
  repeat (first | refine ex_then ?_ | refine ex_block ?_ | refine wp_seq ?_ | refine wp_block ?_ | refine wp_skip ?_)
  refine wp_region_lit ?_
  refine lx_value (v:=.bool true) F (wanted_none rfl _) rfl (by rfl) (o_assign rfl) fun a F=>?_
  refine lx_nil ?_
  rw [hV]
  repeat (first | refine ex_then ?_ | refine ex_block ?_ | refine wp_seq ?_ | refine wp_block ?_ | refine wp_skip ?_)
  refine wp_ret ?_
  repeat (first | refine ex_thenR ?_ | refine ex_blockR ?_)
  exact sx_ret F HM (res_tmp F rfl (s:=4) rfl)

theorem areS_is {b:Bool} (P Q G H n cap:Nat) (pa:Option Addr) (xs:List Nat) (w0:World) (h:expB Q xs=b) (hQ:Q<2^256) (r:RN w0.heap.size w0 pa n cap xs):Calls Tryd.prog 22 #[grp P Q G H,.slice pa n cap] w0 fun e w'=>e=.returned (.bool b)∧Below w0.heap.size w0 w':=by
 subst h;exact areS_any P Q G H n cap pa xs w0 hQ r
/-- the 32 bytes of a long number -/
def lgs (X:Nat):List Nat:=By.longs (wd X 0) (wd X 1) (wd X 2) (wd X 3)
theorem lgs_lt (X:Nat):∀ y∈lgs X,y<256:=fun y hy=>by
 simp only [lgs,By.longs,List.mem_append] at hy
 rcases hy with h | h | h | h <;> exact By.be_lt _ _ y h
theorem pl_is (K:Nat) (w:World):Calls Tryd.prog 40 #[.slice none 0 0,num K] w fun e w'=>∃ g,e=.returned (.slice (some ⟨g,0,none⟩) 32 32)∧Below w.heap.size w w'∧By.Rd w' (some ⟨g,0,none⟩) 32 (By.bs (lgs K)):=by
 refine (By.putLong_any none 0 0 (wd K 0) (wd K 1) (wd K 2) (wd K 3) [] w (by decide) (Nat.le_refl _) (fun _=>⟨rfl,rfl⟩) (By.Rd.nil w none) (wd_64 _ _) (wd_64 _ _) (wd_64 _ _) (wd_64 _ _)).mono fun e w' ⟨he,ho,hb⟩=>⟨_,he,hb,?_⟩
 obtain ⟨h1,h2⟩:=ho
 rcases h2 with ⟨h2,_⟩ | ⟨g,cap,cur,h3,_,h4,_,_,_,h5⟩
 ·cases h2
 ·cases h3
  rw [List.nil_append] at h5
  have h4':At w' (w.heap.size+2) 5 cur:=h4
  refine ⟨by rw [By.bs_len];rfl,fun _=>⟨_,0,rfl,h4'.lt,fun j u hu=>?_⟩⟩
  have hu':(By.bs (lgs K))[j]? = some u:=hu
  rw [Nat.zero_add,h4'.cell]
  unfold lgs at hu'
  rw [← h5,List.getElem?_take] at hu'
  split at hu'
  ·simpa using hu'
  ·cases hu'
theorem rd_hash {w:World} {g:Nat} {t:TypeId} {h:Nat→Nat} (a:At w g t (hcs h)):By.Rd w (some ⟨g,0,none⟩) 32 (By.bs ((List.range 32).map h)):=
 By.at_bytes (l:=(List.range 32).map h) (xs:=hl h) (show By.At w g t (hl h).toArray from a) rfl (by simp)
/-- the challenge of a key,a number and a hash -/
def chl (Q K N:Nat) (h:Nat→Nat):Nat:=By.numOf Q ⟨#[115,105,103,110]⟩ 3 fun j=>if j=0 then lgs K else if j=1 then lgs N else (List.range 32).map h
theorem chl_lt {Q:Nat} (hQ:Q≠0) (K N:Nat) (h:Nat→Nat):chl Q K N h<Q:=by
 unfold chl By.numOf;rw [if_neg hQ];exact Nat.mod_lt _ (by omega)
theorem chl_256 {Q:Nat} (hQ:Q<2^256) (K N:Nat) (h:Nat→Nat):chl Q K N h<2^256:=by
 by_cases e:Q=0
 ·unfold chl By.numOf;rw [if_pos e];decide
 ·exact Nat.lt_trans (chl_lt e K N h) hQ
def chRB (K N:Nat) (h:Nat→Nat):Nat→List Nat:=fun j=>if j=0 then lgs K else if j=1 then lgs N else (List.range 32).map h
def RwQ (K N:Nat) (h:Nat→Nat) (g:Nat) (w:World):Prop:=∃ RA:Nat→Option Addr,(∀ j,RA j≠none)∧By.Rows2 w (some ⟨g,0,none⟩) 3 3 RA (fun _=>32) (fun _=>32) (chRB K N h)
theorem slI (n c:Nat):∀ g h:Nat,(Value.slice (some ⟨g,0,none⟩) n c)=.slice (some ⟨h,0,none⟩) n c→g=h:=fun g h e=>by cases e;rfl
theorem rw_of {w:World} {K N ga gb gh:Nat} {h:Nat→Nat} (hb:∀ i,h i<256) (A:By.Rd w (some ⟨ga,0,none⟩) 32 (By.bs (lgs K))) (B:By.Rd w (some ⟨gb,0,none⟩) 32 (By.bs (lgs N))) (C:By.Rd w (some ⟨gh,0,none⟩) 32 (By.bs ((List.range 32).map h))) (T:TypeId) :
  RwQ K N h w.heap.size (w.alloc (.cells #[.slice (some ⟨ga,0,none⟩) 32 32,.slice (some ⟨gb,0,none⟩) 32 32,.slice (some ⟨gh,0,none⟩) 32 32] T)):=by
 have hN:=At.new w T #[.slice (some ⟨ga,0,none⟩) 32 32,.slice (some ⟨gb,0,none⟩) 32 32,.slice (some ⟨gh,0,none⟩) 32 32]
 have hB:Below w.heap.size w (w.alloc (.cells #[.slice (some ⟨ga,0,none⟩) 32 32,.slice (some ⟨gb,0,none⟩) 32 32,.slice (some ⟨gh,0,none⟩) 32 32] T)):=(Below.refl _ _).alloc (Nat.le_refl _) _
 refine ⟨fun j=>if j=0 then some ⟨ga,0,none⟩ else if j=1 then some ⟨gb,0,none⟩ else some ⟨gh,0,none⟩,fun j=>by dsimp only;split <;> (try split) <;> simp,⟨by decide,by decide,fun j hj=>⟨_,0,rfl,hN.lt,?_⟩,fun j hj=>?_,fun j _=>by decide,fun j hj e=>?_,fun j hj y hy=>?_⟩⟩
 ·match j,hj with
  | 0,_=>exact hN.cell 0
  | 1,_=>exact hN.cell 1
  | 2,_=>exact hN.cell 2
 ·match j,hj with
  | 0,_=>exact A.below hB
  | 1,_=>exact B.below hB
  | 2,_=>exact C.below hB
 ·exfalso
  split at e <;> (try split at e) <;> cases e
 ·match j,hj with
  | 0,_=>exact lgs_lt _ y hy
  | 1,_=>exact lgs_lt _ y hy
  | 2,_=>obtain ⟨x,_,rfl⟩:=List.mem_map.1 (show y∈(List.range 32).map h from hy);exact hb x
theorem number_is (Q K N g:Nat) (hQ:Q<2^256) (h:Nat→Nat) (w:World) (r:RwQ K N h g w) (T:By.Tabs w):Calls Tryd.prog 39 #[num Q,.string ⟨#[115,105,103,110]⟩,.slice (some ⟨g,0,none⟩) 3 3] w fun e w'=>e=.returned (.tuple #[num (chl Q K N h),.int .i64 (By.errOf Q)])∧Below w.heap.size w w':=by
 obtain ⟨RA,_,r⟩:=r
 exact By.number_ok Q hQ _ _ 3 3 RA _ _ _ w (by decide) (by decide) (fun _ _=>by decide) (fun e=>by cases e) r T
section
variable {x y z:Operand} {dst:Option Tmp} {ty:TypeId} {pos:String} {after:Array Edge} {guard:Option (Nat × Bool)} {ρ:Operand→Value} {w:World} {g o:Nat}
theorem o_sliceH (hx:ρ x=.pointer (some ⟨g,0,none⟩)):(execOp ρ ⟨dst,.slice 28 x none none none,ty,pos,after,guard⟩).run Tryd.prog w=.ok (.value (.slice (some ⟨g,0,none⟩) 32 32)) w:=by simp [execOp,hx,go_sem]
theorem o_sliceRw {u v s:Value} (hx:ρ x=u) (hy:ρ y=v) (hz:ρ z=s) (h:∃ a b c,u=.slice a 32 32∧v=.slice b 32 32∧s=.slice c 32 32):(execOp ρ ⟨dst,.buildSlice 80 3 #[(0,x),(1,y),(2,z)],ty,pos,after,guard⟩).run Tryd.prog w=.ok (.value (.slice (some ⟨w.heap.size,0,none⟩) 3 3)) (w.alloc (.cells #[u,v,s] 64)):=by
 obtain ⟨a,b,c,rfl,rfl,rfl⟩:=h
 simp [execOp,hx,hy,hz,go_sem]
end
set_option maxRecDepth 100000 in
set_option maxHeartbeats 800000 in
theorem chal_is (P Q G H K N gG gK gX:Nat) (h:Nat→Nat) (hQ:Q<2^256) (hh:∀ i,h i<256) (w0:World) (T:By.Tabs w0) (A1:At w0 gG 26 (gcs P Q G H)) (A2:At w0 gK 24 (ncs K)) (A3:At w0 gX 28 (hcs h)):Calls Tryd.prog 38 #[num N,.pointer (some ⟨gG,0,none⟩),.pointer (some ⟨gK,0,none⟩),.pointer (some ⟨gX,0,none⟩)] w0 fun e w'=>e=.returned (num (chl Q K N h))∧Below w0.heap.size w0 w':=by
 refine sx_enter (args:=[num N,.pointer (some ⟨gG,0,none⟩),.pointer (some ⟨gK,0,none⟩),.pointer (some ⟨gX,0,none⟩)]) Tryd.func38 rfl Tryd.ntmps38 (by rfl) fun a F HM=>?_
 repeat (first | refine ex_then ?_ | refine ex_block ?_ | refine wp_seq ?_ | refine wp_block ?_ | refine wp_skip ?_)
 refine wp_region_lit ?_
 refine lx_new F HM (wanted_none rfl _) rfl (by rfl) (o_boxN (F.ev rfl)) fun a w gn F HM=>?_
 refine lx_new F HM (wanted_none rfl _) rfl (by rfl) (o_allocN) fun a w go F HM=>?_
 refine lx_nil ?_
 repeat (first | refine ex_then ?_ | refine ex_block ?_ | refine wp_seq ?_ | refine wp_block ?_ | refine wp_skip ?_)
 refine sx_enterR (S:=fun w'=>Mem _ _ w' [(go,24,ncs 0),(gn,24,ncs N)]) HM (fun _ h=>h) (by kernel_rfl) fun w HM HBW=>?_
 clear HBW
 try simp only [List.append_eq,List.cons_append,List.nil_append]
 refine sx_batch [⟨0,9,[],.val (.pointer (some ⟨gG,4,none⟩)),true⟩,
   ⟨1,10,[0],.val (num Q),true⟩,
   ⟨2,11,[1],.val (num K),true⟩,
   ⟨4,13,[2],.val (num N),true⟩,
   ⟨6,15,[3],.val (.slice (some ⟨gX,0,none⟩) 32 32),true⟩,
   ⟨12,6,[],.cell 24 (ncs 0),false⟩,
   ⟨3,12,[2,4],.clo (fun g=>.slice (some ⟨g,0,none⟩) 32 32) (fun g w=>By.Rd w (some ⟨g,0,none⟩) 32 (By.bs (lgs K))) (⟨slI _ _,fun _ _ _ h hb=>h.below hb⟩),false⟩,
   ⟨5,14,[3,6],.clo (fun g=>.slice (some ⟨g,0,none⟩) 32 32) (fun g w=>By.Rd w (some ⟨g,0,none⟩) 32 (By.bs (lgs N))) (⟨slI _ _,fun _ _ _ h hb=>h.below hb⟩),false⟩,
   ⟨7,16,[4,6,7],.clo (fun g=>.slice (some ⟨g,0,none⟩) 3 3) (RwQ K N h) (⟨slI _ _,fun _ _ _ ⟨RA,h0,r⟩ hb=>⟨RA,h0,r.below hb⟩⟩),false⟩,
   ⟨8,17,[1,7,8],.val (.tuple #[num ((chl Q K N h)),.int .i64 (By.errOf Q)]),false⟩,
   ⟨9,8,[9],.val (.tuple #[num ((chl Q K N h)),.int .i64 (By.errOf Q)]),true⟩,
   ⟨10,18,[10],.val (num ((chl Q K N h))),true⟩,
   ⟨11,19,[10,11],.val (.int .i64 (By.errOf Q)),true⟩] 2 _ F HM (fun _ h=>h.subl (by first | exact List.Sublist.refl _ | (repeat (first | exact List.Sublist.refl _ | refine List.Sublist.cons_cons _ ?_ | refine List.Sublist.cons _ ?_)))) (by kernel_rfl) (by rfl) ?_ ?_ ?_ ?_ ?_ ?_ ?_
 ·kernel_rfl
 ·exact of_decide_eq_true (by kernel_rfl)
 ·(repeat refine all_cons ⟨_,by rfl,by rfl⟩ ?_);exact all_nil
 ·kernel_rfl
 ·(repeat (refine all_cons ?_ ?_;rotate_left));exact all_nil
  ·exact coreS _ _ _ _ _ _ _ (by rfl) (by rfl) (wants_none) (fun ρ w kn hs=>o_fieldG1 (kn _ _ (F.old (by rfl) rfl)))
  ·exact coreS _ _ _ _ _ _ _ (by rfl) (by rfl) (wants_none) (fun ρ w kn hs=>o_loadG1 (kn _ _ (kc 0 9)) (A1.on hs.bel))
  ·exact coreS _ _ _ _ _ _ _ (by rfl) (by rfl) (wants_none) (fun ρ w kn hs=>o_loadN (kn _ _ (F.old (by rfl) rfl)) (A2.on hs.bel))
  ·exact coreS _ _ _ _ _ _ _ (by rfl) (by rfl) (wants_none) (fun ρ w kn hs=>o_loadN (kn _ _ (F.old (by rfl) rfl)) (hs.get 1 rfl))
  ·exact coreS _ _ _ _ _ _ _ (by rfl) (by rfl) (wants_none) (fun ρ w kn hs=>o_sliceH (kn _ _ (F.old (by rfl) rfl)))
  ·exact core_pureAs _ (by rfl)
  ·exact core_pureAs _ (by rfl)
  ·exact core_pureAs _ (by rfl)
  ·exact core_pureAs _ (by rfl)
  ·exact core_pureAs _ (by rfl)
  ·exact coreS _ _ _ _ _ _ _ (by rfl) (by rfl) (wants_none) (fun ρ w kn hs=>o_move (kn _ _ (kc 9 17)))
  ·exact coreS _ _ _ _ _ _ _ (by rfl) (by rfl) (wants_none) (fun ρ w kn hs=>o_extract (kn _ _ (kc 10 8)) rfl)
  ·exact coreS _ _ _ _ _ _ _ (by rfl) (by rfl) (wants_none) (fun ρ w kn hs=>o_extract (kn _ _ (kc 10 8)) rfl)
 ·(repeat (refine all_cons ?_ ?_;rotate_left));exact all_nil
  ·exact sA
  ·exact sA
  ·exact sA
  ·exact sA
  ·exact sA
  ·exact fun _=>core_new _ _ _ _ _ _ _ _ (by rfl) (by rfl) (Nat.le_refl _) (fun ρ w=>o_allocN)
  ·intro _
   refine core_callE _ [.const (.slice none 0 0),.tmp 11] (.func 40) _ _ _ _ _ (by rfl) (wants_none) (by rfl) (fun vs w hl hb hp=>?_)
   exact ⟨_,_,run_callF Tryd.func40 (by kernel_rfl) (by rfl) (.cons ((known_const _) vs w hl hp) (.cons ((kc 2 11) vs w hl hp) .nil)) _,(pl_is K w).mono fun e w' ⟨g,he,hb,hr⟩=>⟨_,he,hb,g,rfl,hr⟩⟩
  ·intro _
   refine core_callE _ [.const (.slice none 0 0),.tmp 13] (.func 40) _ _ _ _ _ (by rfl) (wants_none) (by rfl) (fun vs w hl hb hp=>?_)
   exact ⟨_,_,run_callF Tryd.func40 (by kernel_rfl) (by rfl) (.cons ((known_const _) vs w hl hp) (.cons ((kc 3 13) vs w hl hp) .nil)) _,(pl_is N w).mono fun e w' ⟨g,he,hb,hr⟩=>⟨_,he,hb,g,rfl,hr⟩⟩
  ·intro _
   refine core_opClo _ _ _ _ _ (fun g=>.slice (some ⟨g,0,none⟩) 3 3) (RwQ K N h) (⟨slI _ _,fun _ _ _ ⟨RA,h0,r⟩ hb=>⟨RA,h0,r.below hb⟩⟩) (by rfl) (by rfl) (fun vs w hl hb hp=>?_)
   obtain ⟨ga,ea,ra⟩:=clo_of hl hp 6 12 _ (fun g=>.slice (some ⟨g,0,none⟩) 32 32) (fun g w=>By.Rd w (some ⟨g,0,none⟩) 32 (By.bs (lgs K))) (⟨slI _ _,fun _ _ _ h hb=>h.below hb⟩) (of_decide_eq_true (by rfl)) (by rfl) (by rfl) (by rfl)
   obtain ⟨gb,eb,rb⟩:=clo_of hl hp 7 14 _ (fun g=>.slice (some ⟨g,0,none⟩) 32 32) (fun g w=>By.Rd w (some ⟨g,0,none⟩) 32 (By.bs (lgs N))) (⟨slI _ _,fun _ _ _ h hb=>h.below hb⟩) (of_decide_eq_true (by rfl)) (by rfl) (by rfl) (by rfl)
   have hc:=((kc 4 15) vs w hl hp)
   exact ⟨_,_,o_sliceRw ea eb hc ⟨_,_,_,rfl,rfl,rfl⟩,(Below.refl _ _).alloc (Nat.le_refl _) _,rw_of hh ra rb (rd_hash ((A3.on HM.bel).on hb)) _⟩
  ·intro _
   refine coreX_call _ 39 _ _ [.tmp 10,.const (.string ⟨#[115,105,103,110]⟩),.tmp 16] _ _ _ _ _ (by rfl) Tryd.func39 (by kernel_rfl) (by rfl) (by rfl) (fun vs w hl hb hp=>?_)
   obtain ⟨g16,he16,r16⟩:=clo_of hl hp 8 16 _ (fun g=>.slice (some ⟨g,0,none⟩) 3 3) (RwQ K N h) (⟨slI _ _,fun _ _ _ ⟨RA,h0,r⟩ hb=>⟨RA,h0,r.below hb⟩⟩) (of_decide_eq_true (by rfl)) (by rfl) (by rfl) (by rfl)
   exact ⟨[num Q,.string ⟨#[115,105,103,110]⟩,.slice (some ⟨g16,0,none⟩) 3 3],(mev_cons ((kc 1 10) vs w hl hp) (mev_cons (rfl) (mev_cons (he16) mev_nil))),number_is Q K N g16 hQ h _ r16 ((T.on HM.bel).on hb)⟩
  ·exact sA
  ·exact sA
  ·exact sA
 intro gs rs a w hgs hrs F HM HBW HR HO HT
 obtain ⟨ga,gb,gR,rfl⟩:=nl3 rs hrs
 obtain ⟨gr,rfl⟩:=nl1 gs hgs
 clear hrs hgs HR HBW HO
 obtain ⟨ra,rb,rR,-⟩:=HT
 refine sx_store (i:=13) HM (by kernel_rfl) (by rfl) rfl rfl (k:=0) rfl (o_storeN (F.ev rfl) (F.ev rfl) (HM.get 0 rfl)) (M2:=[(gr,24,ncs ((chl Q K N h))),(go,24,ncs 0),(gn,24,ncs N)]) (rfl) (fun _ h=>h.subl (by first | exact List.Sublist.refl _ | (repeat (first | exact List.Sublist.refl _ | refine List.Sublist.cons_cons _ ?_ | refine List.Sublist.cons _ ?_)))) fun w HM=>?_
 refine sx_assign (i:=14) (d:=7) (x:=.tmp 19) (v:=.int .i64 (By.errOf Q)) F ((HM.subl (by first | exact List.Sublist.refl _ | (repeat (first | exact List.Sublist.refl _ | refine List.Sublist.cons_cons _ ?_ | refine List.Sublist.cons _ ?_))))) (by kernel_rfl) (by rfl) (by rfl) (F.ev rfl) fun a F=>?_
 refine sx_done (by kernel_rfl) ?_ _
 repeat (first | refine ex_then ?_ | refine ex_block ?_ | refine wp_seq ?_ | refine wp_block ?_ | refine wp_skip ?_)
 refine wp_region_lit ?_
 refine lx_value (v:=num ((chl Q K N h))) F (wanted_none rfl _) rfl (by rfl) (o_loadN (F.ev rfl) (HM.get 0 rfl)) fun a F=>?_
 refine lx_store F HM (wanted_none rfl _) rfl (k:=1) rfl (o_storeN (F.ev rfl) (F.ev rfl) (HM.get 1 rfl)) (M2:=[(gr,24,ncs ((chl Q K N h))),(go,24,ncs ((chl Q K N h))),(gn,24,ncs N)]) (rfl) fun w HM=>?_
 refine lx_nil ?_
 repeat (first | refine ex_then ?_ | refine ex_block ?_ | refine wp_seq ?_ | refine wp_block ?_ | refine wp_skip ?_)
 refine wp_ret ?_
 repeat (first | refine ex_thenR ?_ | refine ex_blockR ?_)
 exact sx_ret F HM (res_N F (s:=5) rfl rfl (HM.get 1 rfl))

set_option maxRecDepth 100000 in
set_option maxHeartbeats 800000 in
/-- the closure that challenges answers -/
def cloV (g:Nat):Value:=.func (.func 38) #[] #[.pointer (some ⟨g,0,none⟩),.pointer (some ⟨g+1,0,none⟩),.pointer (some ⟨g+2,0,none⟩)]
theorem cloI:∀ g h:Nat,cloV g=cloV h→g=h:=fun g h e=>by cases e;rfl
def CloQ (P Q G H K:Nat) (h:Nat→Nat) (g:Nat) (w:World):Prop:=At w g 26 (gcs P Q G H)∧At w (g+1) 24 (ncs K)∧At w (g+2) 28 (hcs h)
theorem CloQ.on {P Q G H K g:Nat} {h:Nat→Nat} {w w':World} (c:CloQ P Q G H K h g w) (hb:Below w.heap.size w w'):CloQ P Q G H K h g w':=⟨c.1.on hb,c.2.1.on hb,c.2.2.on hb⟩
theorem chs_is (P Q G H K:Nat) (h:Nat→Nat) (w0:World):Calls Tryd.prog 23 #[grp P Q G H,num K,hsv h] w0 fun e w'=>∃ g,e=.returned (cloV g)∧Below w0.heap.size w0 w'∧CloQ P Q G H K h g w':=by
 refine sx_enter (args:=[grp P Q G H,num K,hsv h]) Tryd.func23 rfl Tryd.ntmps23 (by rfl) fun a F HM=>?_
 repeat (first | refine ex_then ?_ | refine ex_block ?_ | refine wp_seq ?_ | refine wp_block ?_ | refine wp_skip ?_)
 refine wp_region_lit ?_
 refine lx_value (v:=.pointer (some ⟨w0.heap.size,0,none⟩)) F (wanted_none rfl _) rfl (by rfl) (o_boxG (F.ev rfl)) fun a F=>?_
 have B1:Below w0.heap.size w0 (w0.alloc (.cells (gcs P Q G H) 26)):=(Below.refl _ _).alloc (Nat.le_refl _) _
 have N1:=At.new w0 26 (gcs P Q G H)
 have s1:(w0.alloc (.cells (gcs P Q G H) 26)).heap.size=w0.heap.size+1:=by simp
 generalize w0.alloc (.cells (gcs P Q G H) 26)=w1 at *
 refine lx_value (v:=.pointer (some ⟨w1.heap.size,0,none⟩)) F (wanted_none rfl _) rfl (by rfl) (o_boxN (F.ev rfl)) fun a F=>?_
 have B2:Below w1.heap.size w1 (w1.alloc (.cells (ncs K) 24)):=(Below.refl _ _).alloc (Nat.le_refl _) _
 have N2:=At.new w1 24 (ncs K)
 have s2:(w1.alloc (.cells (ncs K) 24)).heap.size=w1.heap.size+1:=by simp
 generalize w1.alloc (.cells (ncs K) 24)=w2 at *
 refine lx_value (v:=.pointer (some ⟨w2.heap.size,0,none⟩)) F (wanted_none rfl _) rfl (by rfl) (o_boxH (F.ev rfl)) fun a F=>?_
 have B3:Below w2.heap.size w2 (w2.alloc (.cells (hcs h) 28)):=(Below.refl _ _).alloc (Nat.le_refl _) _
 have N3:=At.new w2 28 (hcs h)
 generalize w2.alloc (.cells (hcs h) 28)=w3 at *
 rw [s2,s1] at F N3
 rw [s1] at N2
 have Q:CloQ P Q G H K h w0.heap.size w3:=⟨(N1.on B2).on B3,N2.on B3,N3⟩
 have B:Below w0.heap.size w0 w3:=B1.trans ((B2.mono (by omega)).trans (B3.mono (by omega)))
 refine lx_value (v:=.nilFunc) F (wanted_none rfl _) rfl (by rfl) (o_assign rfl) fun a F=>?_
 refine lx_nil ?_
 repeat (first | refine ex_then ?_ | refine ex_block ?_ | refine wp_seq ?_ | refine wp_block ?_ | refine wp_skip ?_)
 refine wp_region_lit ?_
 refine lx_value (v:=cloV w0.heap.size) F (wanted_none rfl _) rfl (by rfl) (o_mk3 (F.ev rfl) (F.ev rfl) (F.ev rfl)) fun a F=>?_
 refine lx_value (v:=cloV w0.heap.size) F (wanted_none rfl _) rfl (by rfl) (o_assign (F.ev rfl)) fun a F=>?_
 refine lx_nil ?_
 repeat (first | refine ex_then ?_ | refine ex_block ?_ | refine wp_seq ?_ | refine wp_block ?_ | refine wp_skip ?_)
 refine wp_ret ?_
 repeat (first | refine ex_thenR ?_ | refine ex_blockR ?_)
 exact bodyPost_ret (res_tmp F rfl (s:=6) rfl) F.defers ⟨_,rfl,B,Q⟩
end Go.Proofs.YtlphnfajhpkleaaDoor
