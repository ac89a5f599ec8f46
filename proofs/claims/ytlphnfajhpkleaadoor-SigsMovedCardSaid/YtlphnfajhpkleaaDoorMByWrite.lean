/-
 shas.Write: more bytes,taken in block by block.
-/
import Derived.Test.YtlphnfajhpkleaaDoorMBySum2
namespace Go.Proofs.YtlphnfajhpkleaaDoor.By
set_option maxRecDepth 100000
open Go.RowKit
set_option linter.unusedSimpArgs false
set_option linter.unusedVariables false

section
variable {dst:Option Tmp} {ty:TypeId} {pos:String} {after:Array Edge} {gd:Option (Nat × Bool)} {x y:Operand} {ρ:Operand→Value} {w:World}
theorem nil_run (ad:Addr) (hx:ρ x=.pointer (some ad)):(execOp ρ ⟨dst,.nilCheck x,ty,pos,after,gd⟩).run Tryd.prog w=.ok (.value (.pointer (some ad))) w:=by
 simp [execOp,hx,go_sem]
theorem fld1_run (g:Nat) (hx:ρ x=.pointer (some ⟨g,0,none⟩)):(execOp ρ ⟨dst,.fieldAddr 114 x 1,ty,pos,after,gd⟩).run Tryd.prog w=.ok (.value (.pointer (some ⟨g,1,none⟩))) w:=by
 simp [execOp,hx,go_sem]
theorem fld2_run (g:Nat) (hx:ρ x=.pointer (some ⟨g,0,none⟩)):(execOp ρ ⟨dst,.fieldAddr 114 x 2,ty,pos,after,gd⟩).run Tryd.prog w=.ok (.value (.pointer (some ⟨g,2,none⟩))) w:=by
 simp [execOp,hx,go_sem]
theorem fld3_run (g:Nat) (hx:ρ x=.pointer (some ⟨g,0,none⟩)):(execOp ρ ⟨dst,.fieldAddr 114 x 3,ty,pos,after,gd⟩).run Tryd.prog w=.ok (.value (.pointer (some ⟨g,10,none⟩))) w:=by
 simp [execOp,hx,go_sem]
theorem loadU (g k:Nat) (u:Value) (hx:ρ x=.pointer (some ⟨g,k,none⟩)) (h:w.cell? ⟨g,k,none⟩=some u):(execOp ρ ⟨dst,.load 22 x,ty,pos,after,gd⟩).run Tryd.prog w=.ok (.value u) w:=by
 simp [execOp,hx,go_sem,h]
theorem remU (n r:Nat) (hr:n%64=r) (hx:ρ x=.int .u64 (n:Nat)) (hy:ρ y=.int .u64 64):(execOp ρ ⟨dst,.binOp .rem 22 x y 22,ty,pos,after,gd⟩).run Tryd.prog w=.ok (.value (.int .u64 (r:Nat))) w:=by
 have h1:Int.tmod (n:Int) 64=(r:Int):=by rw [← hr];exact Int.ofNat_tmod n 64
 have h2:(r:Int)%18446744073709551616=(r:Int):=by omega
 simp [execOp,hx,hy,go_sem,h1,h2,IntKind.wrap_u64]
theorem sliceBo (g o k:Nat) (hk:k<64) (hx:ρ x=.pointer (some ⟨g,o,none⟩)) (hy:ρ y=.int .u64 (k:Nat)) :
  (execOp ρ ⟨dst,.slice 112 x (some y) none none,ty,pos,after,gd⟩).run Tryd.prog w=.ok (.value (.slice (some ⟨g,o+k,none⟩) (64-k) (64-k))) w:=by
 have h1:(k:Int)≤64:=by omega
 have h2:¬ (64:Int)<(k:Int):=by omega
 have h3:((64:Int)-(k:Int)).toNat=64-k:=by omega
 have h4:¬ 64=k:=by omega
 simp [execOp,hx,hy,go_sem,h1,h2,h3,h4]
theorem copy_run (dT sT:Operand) (g o dl dc b so sl sc t:Nat) (xs:List Nat) (hx:ρ dT=.slice (some ⟨g,o,none⟩) dl dc) (hy:ρ sT=.slice (some ⟨b,so,none⟩) sl sc) (hxl:xs.length=t) (ht:t=Nat.min sl dl)
  (hsrc:∀ (j:Nat) (v:Value),(bs xs)[j]? = some v→w.cell? ⟨b,so+j,none⟩=some v) (hth:w.there g o t) :
  (execOp ρ ⟨dst,.call ⟨.builtin .copy,#[dT,sT],#[64,64]⟩,ty,pos,after,gd⟩).run Tryd.prog w=.ok (.value (.int .i64 (t:Nat))) (w.setCells g o (bs xs)):=by
 have h:=run_copy_cells (P:=Tryd.prog) w 64 64 ty 5 g o dl dc ⟨b,so,none⟩ sl sc (bs xs) Tryd.underlying64 (by kernel_rfl) (by rw [bs_len,hxl,ht])
  (fun j v hv=>by rw [Addr.add_mid];exact hsrc j v hv) (fun j hj=>(hth j (by rw [bs_len,hxl] at hj;exact hj)).1) (fun j hj=>(hth j (by rw [bs_len,hxl] at hj;exact hj)).2) (bs_one xs)
 rw [bs_len,hxl] at h
 simp only [execOp,resolve,invoke,builtin,Sem.run_bind,Sem.run_pure,Result.andThen_ok,List.map_toArray,List.map_cons,List.map_nil,hx,hy,h]
 rfl
end
section
variable {P:Program} {ops:Array Oper} {Q:Exit→Act→World→Prop} {md:Region.Mode} {S:World→Prop} {a:Act} {W:World} {cores:List Core}
theorem value_one {fuel i:Nat} {listed:Array Bool} {b:Act} {w w':World} {o:Oper} {v:Value} (hr:Region.ready md ops listed=[i]) (ho:ops[i]? = some o) (hgd:o.guard=none)
  (hrun:(execOp b.eval o).run P w=.ok (.value v) w') (hS:S w') (h:wpAnyH P md ops Q S fuel (listed.setIfInBounds i true) (b.put o.dst v) w'):wpAnyH P md ops Q S (fuel+1) listed b w:=
 wpAnyH_one hr ho fun K hK=>want_none hgd (wp_of_run_value hrun (hK.out _ _ hS h))
/-- a call that asks for what was there at the region's start -/
theorem core_callB (c:Core) (f:FuncId) (fn:Func) (code:Code) (xs:List Operand) (us:List Value) (tys:Array TypeId) (ty:TypeId) (pos:String) (after:Array Edge) (u:Value)
  (ho:ops[c.i]? = some ⟨some c.d,.call ⟨.value (.func f),xs.toArray,tys⟩,ty,pos,after,none⟩) (hf:P.funcs[f]? = some fn) (hn:(fn.name == "runtime.NumGoroutine")=false) (hb:fn.body=some code)
  (hk:c.kind=Kind.val u) (hx:Args a cores c.pre xs us)
  (C:∀ w,Below W.heap.size W w→Calls P f us.toArray w fun e w'=>e=.returned u∧Below w.heap.size w w'):StepOK P ops Q a W cores c:=by
 intro vs w hl hbw hp o ho' K hK
 rw [ho] at ho'
 obtain rfl:=Option.some.inj ho'
 refine want_none rfl ?_
 have hargs:xs.toArray.map (over a (cores.map (·.d)) vs).eval=us.toArray:=by
  rw [List.map_toArray]
  congr 1
  clear ho C ho'
  induction hx with
  | nil=>rfl
  | cons h _ ih=>rw [List.map_cons,h vs w hl hp,ih]
 have hrun:∀ w,(execOp (over a (cores.map (·.d)) vs).eval ⟨some c.d,.call ⟨.value (.func f),xs.toArray,tys⟩,ty,pos,after,none⟩).run P w=.ok (.enter f us.toArray) w:=fun w=>by
  have h:=run_enter hf hn hb us.toArray w
  simp only [execOp,resolve,hargs]
  simpa [Act.eval,Deferred.ofValue,invoke,go_sem] using h
 unfold Oper.wp
 rw [hrun w,Oper.upon_enter]
 refine (C w hbw).mono fun e w' ⟨he,hb⟩=>?_
 subst he
 exact hK.out u w' hb (by rw [hk];exact rfl) (fun h=>by rw [hk] at h;cases h)
end
/-- the second cell stays,whatever is laid behind it -/
theorem cell_sets1 {u:Value} (g o:Nat) (vs:List Value) (w:World) (ho:1<o) (h:w.cell? ⟨g,1,none⟩=some u):(w.setCells g o vs).cell? ⟨g,1,none⟩=some u:=by
 rw [World.cell?_setCells_out g vs o w ⟨g,1,none⟩ (fun _ _=>Or.inl ho)];exact h

theorem Rd.later {w:World} {b off n k:Nat} {xs:List Value} (h:Rd w (some ⟨b,off,none⟩) n xs) (hk:k<n):Rd w (some ⟨b,off+k,none⟩) (n-k) (xs.drop k):=by
 obtain ⟨b',o',e,hb,hc⟩:=h.2 (by omega)
 injection e with e
 injection e with e1 e2
 subst e1 e2
 refine ⟨by rw [List.length_drop,h.1],fun _=>⟨b,off+k,rfl,hb,fun j u hu=>?_⟩⟩
 rw [Nat.add_assoc]
 exact hc (k+j) u (by rw [List.getElem?_drop] at hu;exact hu)
/-- the bytes that are still to come -/
structure Src (w:World) (g:Nat) (A:Option Addr) (n c:Nat) (m:List Nat):Prop where
 rd:Rd w A n (bs m)
 nc:n≤c
 cm:c≤9223372036854775807
 far:∀ b o,A=some ⟨b,o,none⟩→b≠g
theorem Src.len {w:World} {g:Nat} {A:Option Addr} {n c:Nat} {m:List Nat} (h:Src w g A n c m):m.length=n:=by have:=h.rd.1;rwa [bs_len] at this

set_option maxRecDepth 100000 in
set_option maxHeartbeats 4000000 in
theorem write_ok (g:Nat) (A:Option Addr) (n c:Nat) (l m:List Nat) (w:World) (hs:SumAt w g l) (hsrc:Src w g A n c m) (hb:∀ y∈m,y<256) (T:Tabs w) (h0:g≠0) (h1:g≠1) (hl:l.length+n<1099511627776) :
  Calls Tryd.prog 66 #[.pointer (some ⟨g,0,none⟩),.slice A n c] w fun e w'=>e=.returned (.int .i64 0)∧SumAt w' g (l++m)∧w.grownBy w' (some g):=by
 have hmade:w.cell? ⟨g,0,none⟩=some (.bool true):=by obtain ⟨B,_,_,hat,_⟩:=hs;rw [hat.cell];rfl
 have AB:=Lib.hid (absent_no g w hmade)
 have HB:=Lib.hid hb
 have HS:=Lib.hid hs
 have HR:=Lib.hid hsrc
 have HT:=Lib.hid T
 clear hmade hb hs hsrc T
 go_enter Tryd.func66,Tryd.ntmps66
 go_wp2_with (go_at_call 82;refine AB.out.mono ?_;rintro e w' ⟨rfl,rfl⟩)
 go_loopw [1] (fun v wr=>∃ (A':Option Addr) (n' c':Nat) (m1 m2:List Nat),v=.slice A' n' c'∧m=m1++m2∧Src wr g A' n' c' m2∧SumAt wr g (l++m1)∧w.grownBy wr (some g)∧Tabs wr) (fun v _=>match v with | .slice _ n _=>n | _=>0)
 case atStart=>exact ⟨A,n,c,[],m,rfl,rfl,HR.out,by rw [List.append_nil];exact HS.out,grown_rf _ _,HT.out⟩
 case round=>
  obtain ⟨A',n1,c1,m1,m2,rfl,hm,hsr,hsm,hgr,ht⟩:=hrel
  have hn2:=hsr.len
  have hnm:n1≤n:=by have:=HR.out.len;rw [hm] at this;simp at this;omega
  clear HS AB
  by_cases hlt:0<n1
  ·obtain ⟨b,o,rfl,hbs,hcell⟩:=hsr.rd.spot hlt
   have hlt':(0:Int)<(n1:Int):=by omega
   obtain ⟨B,hB,hBb,hat,hBt⟩:=hsm
   obtain ⟨L,hL⟩:∃ L,l++m1=L:=⟨_,rfl⟩
   rw [hL] at hat hBt
   obtain ⟨N,hN⟩:∃ N,L.length=N:=⟨_,rfl⟩
   obtain ⟨r,hr⟩:∃ r,N%64=r:=⟨_,rfl⟩
   have hrl:r<64:=by omega
   obtain ⟨t,ht0⟩:∃ t,Nat.min n1 (64-r)=t:=⟨_,rfl⟩
   have htr0:t≤64-r:=ht0 ▸ Nat.min_le_right _ _
   have htr:r+t≤64:=by omega
   have htn:t≤n1:=by rw [← ht0];exact Nat.min_le_left _ _
   have htp:0<t:=by rw [← ht0];exact Nat.lt_min.2 ⟨hlt,by omega⟩
   obtain ⟨xs,hxs⟩:∃ xs,m2.take t=xs:=⟨_,rfl⟩
   have hxl:xs.length=t:=by rw [← hxs,List.length_take];omega
   have hxb:∀ y∈xs,y<256:=fun y hy=>HB.out y (by rw [hm];exact List.mem_append_right _ (List.mem_of_mem_take (hxs ▸ hy)))
   have HTM:=Lib.hid ht0.symm
   have hdr:m2=xs++m2.drop t:=by rw [← hxs,List.take_append_drop]
   have hS8:(run init L (L.length/64)).list.length=8:=rfl
   have hok:=run_ok init_ok L (L.length/64)
   have hnew:=next_in B L xs r hB (by rw [hN];exact hr) (by omega) (by rw [← hr,← hN];exact hBt)
   have hfull:=next_full B L xs r hB (by rw [hN];exact hr) (by omega) (by omega) (by rw [← hr,← hN];exact hBt)
   obtain ⟨so,hso⟩:∃ so,run init L (L.length/64)=so:=⟨_,rfl⟩
   rw [hso] at hat hok hnew hfull
   rw [hN] at hat
   clear hS8 hso
   have hS8:so.list.length=8:=rfl
   have C1:wr.cell? ⟨g,1,none⟩=some (.int .u64 (N:Nat)):=by rw [hat.cell];rfl
   have hsrc:∀ (j:Nat) (v:Value),(bs xs)[j]? = some v→wr.cell? ⟨b,o+j,none⟩=some v:=fun j v hv=>hcell j v (by
    rw [hdr,bs_append,List.getElem?_append_left (List.getElem?_eq_some_iff.1 hv).1];exact hv)
   have thr:∀ w',Below wr.heap.size wr w'→w'.there g (10+r) t:=fun w' hb=>(hat.on hb).there (by rw [List.size_toArray,sumC_len _ _ _ _ hS8 hB];omega)
   have hbg:b≠g:=hsr.far b o rfl
   have hnc:=hsr.nc
   have hcm:=hsr.cm
   have hN1:N+t<1099511627776:=by
    have e1:L.length=l.length+m1.length:=by rw [← hL,List.length_append]
    have e2:=HR.out.len
    rw [hm,List.length_append] at e2
    omega
   have HNEW:=Lib.hid hnew
   have HFULL:=Lib.hid hfull
   have HOK:=Lib.hid hok
   have HAT:=Lib.hid hat
   have HGR:=Lib.hid hgr
   have HTB:=Lib.hid ht
   have HSR:=Lib.hid hsr
   have HM:=Lib.hid hm
   have HDR:=Lib.hid hdr
   have HLL:=Lib.hid hL
   have HNN:=Lib.hid hN
   have HRR:=Lib.hid hr
   clear hnew hfull hok hat hgr ht hsr hm hdr hL hN hr hBt hcell hbs hxs ht0 hS8 HT
   go_wp2
   try simp only [List.append_eq,List.cons_append,List.nil_append]
   refine wp_region_noPanic ?_
   refine wp_region_held_drew (S:=fun w'=>w'.cell? ⟨g,1,none⟩=some (.int .u64 (N:Nat))) (by kernel_rfl) (C1) (fun _=>?_)
   refine wpAnyH_cores (fuel:=2) (⟨0,11,[],Kind.val (.pointer (some ⟨g,0,none⟩)),true⟩::⟨1,12,[0],Kind.val (.pointer (some ⟨g,0,none⟩)),true⟩::⟨2,13,[1],Kind.val (.pointer (some ⟨g,10,none⟩)),true⟩::⟨3,14,[2],Kind.val (.pointer (some ⟨g,0,none⟩)),true⟩::⟨4,15,[3],Kind.val (.pointer (some ⟨g,0,none⟩)),true⟩::⟨5,16,[4],Kind.val (.pointer (some ⟨g,1,none⟩)),true⟩::⟨6,17,[5],Kind.val (.int .u64 (N:Nat)),true⟩::⟨7,18,[6],Kind.val (.int .u64 (r:Nat)),true⟩::⟨8,19,[2,7],Kind.val (.slice (some ⟨g,10+r,none⟩) (64-r) (64-r)),true⟩::⟨9,20,[8],Kind.val (.slice (some ⟨b,o,none⟩) n1 c1),true⟩::[]) _ _ wr _ ?_ ?_ ?_ ?_ ?_ ?_ ?_ ?_ ?_ ?_ ?_
   ·rfl
   ·kernel_rfl
   ·exact of_decide_eq_true (by kernel_rfl)
   ·(repeat refine all_cons ⟨_,by rfl,by rfl⟩ ?_);exact all_nil
   ·exact fun _ hb=>cell_on hb C1
   ·exact (Below.refl _ _).drew
   ·kernel_rfl
   ·exact fun _ _ _ _ _ h=>h
   ·(repeat (refine all_cons ?_ ?_;rotate_left));exact all_nil
    ·exact core_move _ _ _ _ _ _ (by rfl) (by rfl) (ko 0)
    ·exact core_heldC _ _ _ _ _ _ _ _ (by rfl) (by rfl) (kc 0 11) (fun ρ w kx hs=>nil_run _ kx)
    ·exact core_heldC _ _ _ _ _ _ _ _ (by rfl) (by rfl) (kc 1 12) (fun ρ w kx hs=>fld3_run g kx)
    ·exact core_move _ _ _ _ _ _ (by rfl) (by rfl) (ko 0)
    ·exact core_heldC _ _ _ _ _ _ _ _ (by rfl) (by rfl) (kc 3 14) (fun ρ w kx hs=>nil_run _ kx)
    ·exact core_heldC _ _ _ _ _ _ _ _ (by rfl) (by rfl) (kc 4 15) (fun ρ w kx hs=>fld1_run g kx)
    ·exact core_heldC _ _ _ _ _ _ _ _ (by rfl) (by rfl) (kc 5 16) (fun ρ w kx hs=>loadU _ _ _ kx hs)
    ·exact core_held2C _ _ _ _ _ _ _ _ _ _ (by rfl) (by rfl) (kc 6 17) (known_const _) (fun ρ w kx ky hs=>remU N r HRR.out kx ky)
    ·exact core_held2C _ _ _ _ _ _ _ _ _ _ (by rfl) (by rfl) (kc 2 13) (kc 7 18) (fun ρ w kx ky hs=>sliceBo g 10 r hrl kx ky)
    ·exact core_move _ _ _ _ _ _ (by rfl) (by rfl) (ko 1)
   ·(repeat (refine all_cons ?_ ?_;rotate_left));exact all_nil
    all_goals try exact sA
   intro vs y1 hc
   obtain ⟨vv0,vv1,vv2,vv3,vv4,vv5,vv6,vv7,vv8,vv9,rfl⟩:=len10 vs hc.lv
   have qq0:=okv hc 0
   have qq1:=okv hc 1
   have qq2:=okv hc 2
   have qq3:=okv hc 3
   have qq4:=okv hc 4
   have qq5:=okv hc 5
   have qq6:=okv hc 6
   have qq7:=okv hc 7
   have qq8:=okv hc 8
   have qq9:=okv hc 9
   have BZ:=hc.bel
   clear hc
   subst qq0 qq1 qq2 qq3 qq4 qq5 qq6 qq7 qq8 qq9
   simp only [List.map_cons,List.map_nil,over,Act.put,List.setIfInBounds_toArray,List.set_cons_zero,List.set_cons_succ]
   refine value_one (i:=10) (w':=y1.setCells g (10+r) (bs xs)) (v:=.int .i64 (t:Nat)) (by kernel_rfl) (by rfl) rfl (copy_run _ _ g (10+r) (64-r) (64-r) b o n1 c1 t xs (by rfl) (by rfl) hxl HTM.out (fun j v hv=>cell_on BZ (hsrc j v hv)) (thr y1 BZ)) (cell_sets1 g (10+r) (bs xs) y1 (by omega) (cell_on BZ C1)) ?_
   try simp only [Act.put,List.setIfInBounds_toArray,List.set_cons_zero,List.set_cons_succ]
   refine assign_one (i:=11) _ 5 _ _ _ (.int .i64 (t:Nat)) (by kernel_rfl) (by rfl) (by rfl) (cell_sets1 g (10+r) (bs xs) y1 (by omega) (cell_on BZ C1)) ?_
   try simp only [Act.put,List.setIfInBounds_toArray,List.set_cons_zero,List.set_cons_succ]
   refine wpAnyH_done (by kernel_rfl) ?_ _
   refine NoPanic.normal ?_
   have G1:Hid (w.grownBy (y1.setCells g (10+r) (bs xs)) (some g)):=Lib.hid (grown_sets _ _ _ (grown_tr HGR.out (grown_of BZ)))
   have GS:wr.grownBy (y1.setCells g (10+r) (bs xs)) (some g):=grown_sets _ _ _ (grown_of BZ)
   have T1:=Lib.hid (HTB.out.grown GS h0 h1)
   have A1:Hid (At (y1.setCells g (10+r) (bs xs)) g 114 (sumC true N so.list (B' B xs r)).toArray):=Lib.hid (by
    have h:=(HAT.out.on BZ).sets (bs xs) (10+r)
    rw [put_block _ _ _ _ _ _ rfl hB (by omega)] at h
    exact h)
   have R1:Hid (Rd (y1.setCells g (10+r) (bs xs)) (some ⟨b,o,none⟩) n1 (bs m2)):=Lib.hid (HSR.out.rd.grown HSR.out.far GS)
   clear GS BZ C1 hsrc thr HAT HGR HTB
   generalize y1.setCells g (10+r) (bs xs)=W1 at *
   have D1:W1.cell? ⟨g,1,none⟩=some (.int .u64 (N:Nat)):=by rw [A1.out.cell];rfl
   have F1:=A1.out.frozen 1
   have LG:=A1.out.lt
   have cv:IntKind.u64.wrap (t:Int)=(t:Int):=by rw [IntKind.wrap_u64];omega
   have A2:Hid (At (W1.setCell ⟨g,1,none⟩ (.int .u64 ((N:Int)+(t:Int)))) g 114 (sumC true (N+t) so.list (B' B xs r)).toArray):=Lib.hid (A1.out.set 1 (.int .u64 ((N+t:Nat):Int)))
   have G2:Hid (w.grownBy (W1.setCell ⟨g,1,none⟩ (.int .u64 ((N:Int)+(t:Int)))) (some g)):=Lib.hid (grown_set G1.out 1 _)
   have GS:W1.grownBy (W1.setCell ⟨g,1,none⟩ (.int .u64 ((N:Int)+(t:Int)))) (some g):=grown_set (grown_rf _ _) 1 _
   have T2:=Lib.hid (T1.out.grown GS h0 h1)
   have R2:Hid (Rd (W1.setCell ⟨g,1,none⟩ (.int .u64 ((N:Int)+(t:Int)))) (some ⟨b,o,none⟩) n1 (bs m2)):=Lib.hid (R1.out.grown HSR.out.far GS)
   clear GS A1 G1 T1 R1
   obtain ⟨q,hq⟩:∃ q,(N+t)%64=q:=⟨_,rfl⟩
   have HQ:=Lib.hid hq
   have TM:Int.tmod ((N:Int)+(t:Int)) 64=(q:Int):=by rw [← hq];exact Int.ofNat_tmod (N+t) 64
   have cw:IntKind.u64.wrap ((N:Int)+(t:Int))=(N:Int)+(t:Int):=by rw [IntKind.wrap_u64];omega
   have hRest:Hid (∀ w',Rd w' (some ⟨b,o,none⟩) n1 (bs m2)→Src w' g (some ⟨b,if t<c1 then o+t else o,none⟩) (n1-t) (c1-t) (m2.drop t)):=Lib.hid (fun w' h=>⟨by
     by_cases hlt2:t<n1
     ·rw [if_pos (by omega),← bs_drop'];exact h.later hlt2
     ·rw [show n1-t=0 by omega,List.drop_of_length_le (by omega)];exact Rd.nil _ _,
    by omega,by omega,fun b' o' e=>by injection e with e;injection e with e1 e2;rw [← e1];exact hbg⟩)
   clear hq
   by_cases hz:q=0
   ·subst hz
    go_wp2_with (refine law_sliceS b o n1 c1 t htn hnc hcm htp rfl rfl ?_;intro o2 HO2)
    obtain ⟨wq,hwq⟩:∃ wq,W1.setCell ⟨g,1,none⟩ (.int .u64 ((N:Int)+(t:Int)))=wq:=⟨_,rfl⟩
    rw [hwq] at A2 G2 T2 R2 ⊢
    clear hwq D1 F1 LG cv cw TM
    have hz2:Hid ((L.length+xs.length)%64=0):=Lib.hid (by rw [HNN.out,hxl,HQ.out])
    obtain ⟨xb,hxbb⟩:∃ xb,bs (B' B xs r)=xb:=⟨_,rfl⟩
    obtain ⟨xs8,hxs8⟩:∃ xs8,hs so.list=xs8:=⟨_,rfl⟩
    obtain ⟨x8,hx8⟩:∃ x8,hs (comp so (B' B xs r)).list=x8:=⟨_,rfl⟩
    have TK:∀ w,Below wq.heap.size wq w→Calls Tryd.prog 83 [.agg xs8.toArray,.agg xb.toArray].toArray w fun e w'=>e=.returned (.agg x8.toArray)∧Below w.heap.size w w':=fun w hb=>by
     rw [← hxs8,← hxbb,← hx8]
     exact taken_ok so (B' B xs r) HOK.out (B'_len _ _ _ hB (by omega)) (B'_lt _ _ _ hBb hxb) w (T2.out.on hb)
    have RS:∀ w,Below wq.heap.size wq w→w.rangeAt g 2 xs8:=fun w hb=>(A2.out.on hb).range _ (fun j v hv=>by
     rw [← hxs8] at hv
     rw [List.getElem?_toArray,show 2+j=j+2 by omega]
     show (hs so.list++bs (B' B xs r))[j]? = some v
     rw [List.getElem?_append_left (List.getElem?_eq_some_iff.1 hv).1];exact hv)
    have RB:∀ w,Below wq.heap.size wq w→w.rangeAt g 10 xb:=fun w hb=>(A2.out.on hb).range _ (fun j v hv=>by
     rw [← hxbb] at hv
     rw [List.getElem?_toArray,show 10+j=(8+j)+2 by omega]
     show (hs so.list++bs (B' B xs r))[8+j]? = some v
     rw [List.getElem?_append_right (by rw [hs_len];show 8≤8+j;omega),hs_len,show 8+j-so.list.length=j by show 8+j-8=j;omega];exact hv)
    have LS:Hid (xs8.length=8):=Lib.hid (by rw [← hxs8,hs_len];rfl)
    have LB:Hid (xb.length=64):=Lib.hid (by rw [← hxbb,bs_len,B'_len _ _ _ hB (by omega)])
    have L8:Hid (x8.length=8):=Lib.hid (by rw [← hx8,hs_len];rfl)
    have O8:Hid (∀ u∈x8,u.oneCell'=true):=Lib.hid (by rw [← hx8];exact hs_one _)
    have P8:Hid (put (sumC true (N+t) so.list (B' B xs r)).toArray 2 x8=(sumC true (N+t) (comp so (B' B xs r)).list (B' B xs r)).toArray):=Lib.hid (by rw [← hx8];exact put_nums _ _ _ _ _ rfl rfl (B'_len _ _ _ hB (by omega)))
    have LA:Hid ((sumC true (N+t) so.list (B' B xs r)).toArray.size=74):=Lib.hid (by rw [List.size_toArray,sumC_len _ _ _ _ rfl (B'_len _ _ _ hB (by omega))])
    obtain ⟨ca,hca⟩:∃ ca,(sumC true (N+t) so.list (B' B xs r)).toArray=ca:=⟨_,rfl⟩
    rw [hca] at P8 LA A2
    have HAT:=A2
    clear hxbb hxs8 hx8 hca
    try simp only [List.append_eq,List.cons_append,List.nil_append]
    refine wp_region_noPanic ?_
    refine wp_region_held_drew (S:=fun _=>True) (by kernel_rfl) (trivial) (fun _=>?_)
    refine wpAnyH_cores (fuel:=1) (⟨0,40,[],Kind.val (.pointer (some ⟨g,0,none⟩)),true⟩::⟨1,41,[0],Kind.val (.pointer (some ⟨g,0,none⟩)),true⟩::⟨2,42,[1],Kind.val (.pointer (some ⟨g,0,none⟩)),true⟩::⟨3,43,[2],Kind.val (.pointer (some ⟨g,2,none⟩)),true⟩::⟨5,45,[3],Kind.val (.pointer (some ⟨g,0,none⟩)),true⟩::⟨6,46,[4],Kind.val (.pointer (some ⟨g,0,none⟩)),true⟩::⟨7,47,[5],Kind.val (.pointer (some ⟨g,10,none⟩)),true⟩::⟨4,44,[3,6],Kind.val (.agg xs8.toArray),false⟩::⟨8,48,[6],Kind.val (.agg xb.toArray),false⟩::⟨9,49,[6,7,8],Kind.val (.agg x8.toArray),false⟩::⟨10,50,[0,1,2,3,4,5,6,7,8,9],Kind.val (.pointer (some ⟨g,0,none⟩)),true⟩::⟨11,51,[0,1,2,3,4,5,6,7,8,9,10],Kind.val (.pointer (some ⟨g,2,none⟩)),true⟩::[]) _ _ wq _ ?_ ?_ ?_ ?_ ?_ ?_ ?_ ?_ ?_ ?_ ?_
    ·rfl
    ·kernel_rfl
    ·exact of_decide_eq_true (by kernel_rfl)
    ·(repeat refine all_cons ⟨_,by rfl,by rfl⟩ ?_);exact all_nil
    ·exact fun _ _=>trivial
    ·exact (Below.refl _ _).drew
    ·kernel_rfl
    ·exact fun _ _ _ _ _ h=>h
    ·(repeat (refine all_cons ?_ ?_;rotate_left));exact all_nil
     all_goals try exact core_pureAs _ (by rfl)
     ·exact core_move _ _ _ _ _ _ (by rfl) (by rfl) (ko 0)
     ·exact core_move _ _ _ _ _ _ (by rfl) (by rfl) (ko 0)
     ·exact core_heldC _ _ _ _ _ _ _ _ (by rfl) (by rfl) (kc 1 41) (fun ρ w kx hs=>nil_run _ kx)
     ·exact core_heldC _ _ _ _ _ _ _ _ (by rfl) (by rfl) (kc 2 42) (fun ρ w kx hs=>fld2_run g kx)
     ·exact core_move _ _ _ _ _ _ (by rfl) (by rfl) (ko 0)
     ·exact core_heldC _ _ _ _ _ _ _ _ (by rfl) (by rfl) (kc 4 45) (fun ρ w kx hs=>nil_run _ kx)
     ·exact core_heldC _ _ _ _ _ _ _ _ (by rfl) (by rfl) (kc 5 46) (fun ρ w kx hs=>fld3_run g kx)
     ·exact core_heldC _ _ _ _ _ _ _ _ (by rfl) (by rfl) (kc 0 40) (fun ρ w kx hs=>nil_run _ kx)
     ·exact core_heldC _ _ _ _ _ _ _ _ (by rfl) (by rfl) (kc 10 50) (fun ρ w kx hs=>fld2_run g kx)
    ·(repeat (refine all_cons ?_ ?_;rotate_left));exact all_nil
     all_goals try exact sA
     ·exact fun _=>core_step _ _ _ _ _ _ _ _ (by rfl) (by rfl) (kc 3 43) (fun ρ w kx hb=>load_run _ g 2 xs8 _ kx (RS w hb) under_eight rfl (by rw [size_eight,LS.out]))
     ·exact fun _=>core_step _ _ _ _ _ _ _ _ (by rfl) (by rfl) (kc 6 47) (fun ρ w kx hb=>load_run _ g 10 xb _ kx (RB w hb) under_block rfl (by rw [size_block,LB.out]))
     ·exact fun _=>core_callB _ 83 _ _ [.tmp 44,.tmp 48] _ _ _ _ _ _ (by rfl) Tryd.func83 (by kernel_rfl) (by rfl) (by rfl) (.cons (kc 7 44) (.cons (kc 8 48) .nil)) TK
    intro vs y2 hc
    obtain ⟨vv0,vv1,vv2,vv3,vv4,vv5,vv6,vv7,vv8,vv9,vv10,vv11,rfl⟩:=len12 vs hc.lv
    have qq0:=okv hc 0
    have qq1:=okv hc 1
    have qq2:=okv hc 2
    have qq3:=okv hc 3
    have qq4:=okv hc 4
    have qq5:=okv hc 5
    have qq6:=okv hc 6
    have qq7:=okv hc 7
    have qq8:=okv hc 8
    have qq9:=okv hc 9
    have qq10:=okv hc 10
    have qq11:=okv hc 11
    have BZ:=hc.bel
    clear hc
    subst qq0 qq1 qq2 qq3 qq4 qq5 qq6 qq7 qq8 qq9 qq10 qq11
    simp only [List.map_cons,List.map_nil,over,Act.put,List.setIfInBounds_toArray,List.set_cons_zero,List.set_cons_succ]
    refine store_row (i:=12) _ _ _ _ _ _ g 2 114 _ x8 (by kernel_rfl) (by rfl) (by rfl) (by rfl) (HAT.out.on BZ) (by simp [LA.out,L8.out]) (by rw [size_eight,L8.out]) O8.out trivial ?_
    refine wpAnyH_done (by kernel_rfl) ?_ _
    refine NoPanic.normal ?_
    have A3:Hid (At (y2.setCells g 2 x8) g 114 (sumC true (N+t) (comp so (B' B xs r)).list (B' B xs r)).toArray):=Lib.hid (by
     have h:=(HAT.out.on BZ).sets x8 2
     rw [P8.out] at h;exact h)
    have GS:wq.grownBy (y2.setCells g 2 x8) (some g):=grown_sets _ _ _ (grown_of BZ)
    have G3:Hid (w.grownBy (y2.setCells g 2 x8) (some g)):=Lib.hid (grown_tr G2.out GS)
    have T3:=Lib.hid (T2.out.grown GS h0 h1)
    have R3:=Lib.hid (R2.out.grown HSR.out.far GS)
    clear GS BZ TK RS RB HAT A2 G2 T2 R2
    generalize y2.setCells g 2 x8=w9 at *
    go_wp2
    go_roundw
    case rel=>
     have hS:SumAt w9 g (L++xs):=⟨B' B xs r,B'_len _ _ _ hB (by omega),B'_lt _ _ _ hBb hxb,by rw [(HFULL.out hz2.out).1,List.length_append,HNN.out,hxl];exact A3.out,(HFULL.out hz2.out).2⟩
     exact ⟨some ⟨b,o2,none⟩,n1-t,c1-t,m1++xs,m2.drop t,rfl,by rw [HM.out,List.append_assoc,← HDR.out],by rw [HO2.out];exact hRest.out _ R3.out,by rw [← List.append_assoc,HLL.out];exact hS,G3.out,T3.out⟩
    case measure=>show n1-t<n1;omega
   ·have hz':¬ (q:Int)=0:=by omega
    go_wp2_with (refine law_sliceS b o n1 c1 t htn hnc hcm htp rfl rfl ?_;intro o2 HO2)
    go_roundw
    case rel=>
     have hz2:(L.length+xs.length)%64≠0:=by rw [HNN.out,hxl,HQ.out];exact hz
     have hS:SumAt (W1.setCell ⟨g,1,none⟩ (.int .u64 ((N:Int)+(t:Int)))) g (L++xs):=⟨B' B xs r,B'_len _ _ _ hB (by omega),B'_lt _ _ _ hBb hxb,by rw [(HNEW.out hz2).1,List.length_append,HNN.out,hxl];exact A2.out,(HNEW.out hz2).2⟩
     exact ⟨some ⟨b,o2,none⟩,n1-t,c1-t,m1++xs,m2.drop t,rfl,by rw [HM.out,List.append_assoc,← HDR.out],by rw [HO2.out];exact hRest.out _ R2.out,by rw [← List.append_assoc,HLL.out];exact hS,G2.out,T2.out⟩
    case measure=>show n1-t<n1;omega
  ·obtain rfl:n1=0:=by omega
   have hm2:m2=[]:=List.eq_nil_of_length_eq_zero hn2
   have hlt':¬ (0:Int)<((0:Nat):Int):=by omega
   rw [hm2,List.append_nil] at hm
   have HM:=Lib.hid hm
   have HSM:=Lib.hid hsm
   have HGR:=Lib.hid hgr
   clear hm hm2 hsm hgr hsr hn2 hlt ht
   go_wp2
   go_ret
   exact ⟨rfl,by rw [HM.out];exact HSM.out,HGR.out⟩
end Go.Proofs.YtlphnfajhpkleaaDoor.By
