import Derived.Deep.Cut
import Derived.Maps.AppendAt
import Derived.Test.YtmmgmljkmmgjdaaGreatDoorMP3
import Derived.Test.YtmmgmljkmmgjdaaGreatDoorMTree
namespace Go.Proofs.YtmmgmljkmmgjdaaGreatDoor
set_option maxRecDepth 100000
set_option maxHeartbeats 8000000
open Go.RowKit
set_option linter.unusedSimpArgs false
set_option linter.unusedVariables false
attribute [local go_sem ↓] Go.wp_at_zero Go.wp_at_succ

def setC (cs:Array Value) (i V:Nat):Array Value:=Jau cs (0+i*4) [.int .u64 (wd V 0),.int .u64 (wd V 1),.int .u64 (wd V 2),.int .u64 (wd V 3)]
theorem Pf.setC {cs:Array Value} {xs:List Nat} (h:Pf cs xs) {i:Nat} (hi:i<xs.length) (V:Nat):Pf (setC cs i V) (xs.set i V):=h.set hi V
theorem RN.call {n0:Nat} {w0 w:World} {a:Option Addr} {n cap:Nat} {xs:List Nat} (h:RN n0 w0 a n cap xs) (hb:Below n0 w0 w) (hn:n0≤w.heap.size):RN w.heap.size w a n cap xs:=⟨h.1,(h.2.below hb).up hn⟩
theorem Jhh:∀ (ys:List Nat) (j:Nat) (u:Value),(flat ys)[j]? = some u→∃ i k,∃ h:i<ys.length,k<4∧j=i*4+k∧u=.int .u64 (wd ys[i] k)
 | [],j,u,h=>by simp [flat] at h
 | Y::ys,0,u,h=>⟨0,0,by simp,by decide,rfl,by simpa [flat] using h.symm⟩
 | Y::ys,1,u,h=>⟨0,1,by simp,by decide,rfl,by simpa [flat] using h.symm⟩
 | Y::ys,2,u,h=>⟨0,2,by simp,by decide,rfl,by simpa [flat] using h.symm⟩
 | Y::ys,3,u,h=>⟨0,3,by simp,by decide,rfl,by simpa [flat] using h.symm⟩
 | Y::ys,j+4,u,h=>by
  obtain ⟨i,k,hi,hk,e,hu⟩:=Jhh ys j u (by simpa [flat] using h)
  exact ⟨i+1,k,by simpa using hi,hk,by omega,by simpa using hu⟩
def LieAt (w:World) (g o:Nat) (ys:List Nat):Prop:=∀ i x,ys[i]? = some x→C4 w g (o+i*4) x
theorem LieAt.news {w:World} {g o:Nat} {ys:List Nat} (h:LieAt w g o ys):∀ j u,(flat ys)[j]? = some u→w.cell? ((⟨g,o,none⟩:Addr).add j)=some u:=fun j u hu=>by
 obtain ⟨i,k,hi,hk,rfl,rfl⟩:=Jhh ys j u hu
 rw [Addr.add_mid]
 obtain ⟨h0,h1,h2,h3⟩:=h i ys[i] (List.getElem?_eq_getElem hi)
 match k,hk with
 | 0,_=>exact h0
 | 1,_=>rw [← Nat.add_assoc];exact h1
 | 2,_=>rw [← Nat.add_assoc];exact h2
 | 3,_=>rw [← Nat.add_assoc];exact h3
theorem flat_cells (ys:List Nat):∀ u∈flat ys,u.oneCell'=true:=fun u hu=>by
 obtain ⟨j,hj,rfl⟩:=List.getElem_of_mem hu
 obtain ⟨i,k,_,_,_,e⟩:=Jhh ys j _ (List.getElem?_eq_getElem hj)
 rw [e];rfl
theorem run_appN {dst:Option Tmp} {ρ:Operand→Value} {w:World} {base m c g o:Nat} {v:Value} {xs ys:List Nat} {s x:Operand} {ty:TypeId} {pos:String} {after:Array Edge} {gd:Option (Nat × Bool)} (hv:NR base w v xs) (hs:ρ s=v) (hx:ρ x=.slice (some ⟨g,o,none⟩) m c) (hm:ys.length=m)
  (hl:LieAt w g o ys) (hn:xs.length+m≤2000) (hb:base≤w.heap.size) :
  ∃ v' w',(execOp ρ ⟨dst,.call { callee:=.builtin .append,args:=#[s,x],argTypes:=#[27,27] },ty,pos,after,gd⟩).run Tryz.prog w=.ok (.value v') w'∧NR base w' v' (xs++ys)∧w.grownBy w' v.ownBlock∧(v'=.slice none 0 0 ↔ v=.slice none 0 0∧m=0)∧(v'.ownBlock=v.ownBlock∨v'.ownBlock=some w.heap.size):=by
 subst hm
 obtain ⟨i0,hi,hz0,hz1,hz2⟩:=info_parts Tryz.infoNum
 obtain ⟨v',w',hr,h2,h3,h4,h5⟩:=run_append_own_at (P:=Tryz.prog) w base 27 ty 24 i0 _ 4 32 Tryz.underlying27 hi hz0 hz1 hz2 rfl (by decide) v xs.length (flat xs) hv ⟨g,o,none⟩ ys.length c (flat ys) (Vy ys) hl.news (flat_cells ys) (by unfold maxLen;omega) (by omega) hb
 refine ⟨v',w',?_,?_,h3,h4,h5⟩
 ·unfold execOp
  simp only [resolve,invoke,builtin,Sem.run_bind,Sem.run_pure,Result.andThen_ok,List.map_toArray,List.map_cons,List.map_nil,hs,hx,hr]
 ·unfold NR
  rw [Jch,List.length_append]
  exact h2
theorem NR.row {base:Nat} {w:World} {v:Value} {xs:List Nat} (h:NR base w v xs) (hx:xs≠[]):∃ g cap cur,v=.slice (some ⟨g,0,none⟩) xs.length cap∧base≤g∧At w g 24 cur∧xs.length≤cap∧cap≤9223372036854775807∧Pf cur xs:=by
 rcases h.2 with ⟨_,h0⟩ | ⟨g,cap,cur,rfl,hg,hc,h1,h2,h3,h4⟩
 ·exact absurd (List.length_eq_zero_iff.1 h0) hx
 ·refine ⟨g,cap,cur,rfl,hg,hc,h1,h2,by rw [h3];exact Nat.mul_le_mul_right _ h1,fun i hi k hk=>?_⟩
  have hf:=Jed xs i hi k hk
  rw [← h4,List.getElem?_take] at hf
  split at hf
  ·simpa using hf
  ·cases hf
theorem NR.one {w:World} {g X:Nat} (h:At w g 24 (Jes X)):NR g w (.slice (some ⟨g,0,none⟩) 1 1) [X]:=⟨rfl,Or.inr ⟨g,1,_,rfl,Nat.le_refl _,h,Nat.le_refl _,by decide,rfl,rfl⟩⟩
theorem Pf.lie {w:World} {g:Nat} {cs:Array Value} {t:TypeId} {xs:List Nat} (h:Pf cs xs) (hat:At w g t cs):LieAt w g 0 xs:=fun i x hi=>h.c4 hat hi
theorem sof_negQ {Q X:Nat} (h1:1<Q) (hX:X<Q):(0+Q-X)%Q=Uq Q (-(X:Int)):=by
 have:=Jep h1 0 (X:Int)
 rw [Jfx h1,Vq hX h1,show (0:Int)-(X:Int)=-(X:Int) by omega] at this
 exact this
theorem Jfg (A:Nat) (xs:List Nat) (but i:Nat) (hi:i<xs.length):prZ (A:Int) ((zs (xs.take (i+1))).eraseIdx but)=if i=but then prZ (A:Int) ((zs (xs.take i)).eraseIdx but) else prZ (A:Int) ((zs (xs.take i)).eraseIdx but)*((A:Int)-(xs[i]:Int)):=by
 have e:zs (xs.take (i+1))=zs (xs.take i)++[(xs[i]:Int)]:=by rw [List.take_succ_eq_append_getElem hi];exact List.map_append
 have hl:(zs (xs.take i)).length=i:=by rw [Wg,List.length_take];omega
 rw [e]
 by_cases hb:i=but
 ·subst hb
  rw [if_pos rfl,List.eraseIdx_append_of_length_le (by omega),hl,Nat.sub_self]
  rw [List.eraseIdx_of_length_le (Nat.le_of_eq hl)]
  simp
 ·rw [if_neg hb]
  by_cases hlt:but<i
  ·rw [List.eraseIdx_append_of_lt_length (by omega),Jev]
   simp [prZ]
  ·rw [List.eraseIdx_append_of_length_le (by omega),List.eraseIdx_of_length_le (show [(xs[i]:Int)].length≤but-(zs (xs.take i)).length by rw [hl];simp;omega),List.eraseIdx_of_length_le (by omega),Jev]
   simp [prZ]
theorem less_mul {Q A x:Nat} {z p:Int} (h1:1<Q) (hA:A<Q) (hx:x<Q):Uq Q (z*p)*((A+Q-x)%Q)%Q=Uq Q (z*(p*((A:Int)-(x:Int)))):=by
 have h2:(A+Q-x)%Q=Uq Q ((A:Int)-(x:Int)):=by
  have:=Jep h1 (A:Int) (x:Int)
  rwa [Vq hA h1,Vq hx h1] at this
 rw [h2,Jfz h1,Int.mul_assoc]
theorem addTimes_any (P Q G H T gp gq lp cap lq capq n0:Nat) (ps os:List Nat) (cp co:Array Value) (M:List (Nat × TypeId × Array Value)) (w0 w:World) (hQ:Q<2^256) (h1:1<Q) (hT:T<Q) (hps:∀ c∈ps,c<Q) (hos:∀ c∈os,c<Q) (hcp:Pf cp ps) (hco:Pf co os) (hlp:ps.length=lp) (hlq:os.length=lq) (hle:lq≤lp) (hbig:lp≤2000) (HM:Mem n0 w0 w ((gp,24,cp)::(gq,24,co)::M)) :
  Calls Tryz.prog 101 #[grp P Q G H,.slice (some ⟨gp,0,none⟩) lp cap,.slice (some ⟨gq,0,none⟩) lq capq,num T] w fun e w2=>e=.returned (.tuple #[])∧∃ cp2,Pf cp2 (Jfp Q ps os T)∧Mem n0 w0 w2 ((gp,24,cp2)::(gq,24,co)::M)∧cp2.size=cp.size:=by
 refine Uf (args:=[grp P Q G H,.slice (some ⟨gp,0,none⟩) lp cap,.slice (some ⟨gq,0,none⟩) lq capq,num T]) HM Tryz.func101 rfl Tryz.ntmps101 (by rfl) fun a F HM=>?_
 refine Kgr ?_
 refine Jn F HM (Ja rfl _) rfl (by rfl) (Km (F.ev rfl)) fun a w gg F HM=>?_
 refine Jn F HM (Ja rfl _) rfl (by rfl) (Kw (F.ev rfl)) fun a w gx F HM=>?_
 refine Jc ?_
 refine Kgr ?_
 refine lxv (.slice (some ⟨gq,0,none⟩) lq capq) F (Jb (F.ev rfl)) fun a F=>?_
 refine lxv (.int .i64 (lq:Nat)) F (Ko (F.ev rfl)) fun a F=>?_
 refine lxv (.int .i64 0) F (Jb rfl) fun a F=>?_
 refine Jc ?_
 refine Kgq ?_
 refine wp_loop (fun a w=>∃ (i:Nat) (cs:Array Value),i≤lq∧Pf cs (Jfp Q ps (os.take i) T)∧cs.size=cp.size∧Fr a 34 [(13,.int .i64 (i:Nat)),(1,.slice (some ⟨gp,0,none⟩) lp cap),(11,.slice (some ⟨gq,0,none⟩) lq capq),(12,.int .i64 (lq:Nat)),(4,.pointer (some ⟨gg,0,none⟩)),(7,.pointer (some ⟨gx,0,none⟩))] []∧Mem n0 w0 w ((gx,24,ncs T)::(gg,26,gcs P Q G H)::(gp,24,cs)::(gq,24,co)::M)) (fun a _=>lq-(intOf (a.tmps.getD 13 undef)).toNat) ⟨0,cp,Nat.zero_le _,by rw [List.take_zero,Jek];exact hcp,rfl,F.sub [13,1,11,12,4,7],HM⟩ ?_
 clear F HM
 rintro aS wS ⟨i,cs,hi,hcs,hcz,FS,HM⟩
 have F:=FS
 by_cases hlt:i<lq
 ·refine Kgr ?_
  refine lxv (.bool true) F (Jz (u:=.int .i64 (i:Nat)) (v:=.int .i64 (lq:Nat)) (fun ρ hx hy=>by simp only [execOp,hx,hy];simp [go_sem];omega) (F.ev rfl) (F.ev rfl)) fun a F=>?_
  refine Jc ?_
  refine Kgq ?_
  refine wp_cond_true (F.ev rfl) ?_
  have hio:i<os.length:=by omega
  have hip:i<ps.length:=by omega
  have hilp:i<lp:=by omega
  have hod:os[i]? = some os[i]:=List.getElem?_eq_getElem hio
  have hpc:(Jfp Q ps (os.take i) T)[i]? = some ps[i]:=by rw [List.getElem?_eq_getElem (by rw [Xq];exact hip),addT_take_get]
  have hst:=addT_step Q ps os T i hio hip
  have hdQ:=hos _ (List.getElem_mem hio)
  have hcQ:=hps _ (List.getElem_mem hip)
  have hil:i<(Jfp Q ps (os.take i) T).length:=by rw [Xq];exact hip
  generalize os[i]=d at *
  generalize ps[i]=c at *
  have hT2:=Nat.mod_lt (d*T) (show 0<Q by omega)
  refine Kgr ?_
  refine lxv (.int .i64 (i:Nat)) F (Jb (F.ev rfl)) fun a F=>?_
  refine lxv (.pointer (some ⟨gq,0+i*4,none⟩)) F (Kv hlt (F.ev rfl) (F.ev rfl)) fun a F=>?_
  refine lxv (num d) F (Kh (F.ev rfl) (hco.c4 (HM.get 3 rfl) hod)) fun a F=>?_
  refine Jn F HM (Ja rfl _) rfl (by rfl) (Jw) fun a w gc F HM=>?_
  refine lxv (.int .i64 (i:Nat)) F (Je (F.ev rfl)) fun a F=>?_
  refine Jv F HM (Ja rfl _) rfl (k:=0) rfl (Jq (F.ev rfl) (F.ev rfl) (HM.get 0 rfl)) (M2:=((gc,24,ncs d)::(gx,24,ncs T)::(gg,26,gcs P Q G H)::(gp,24,cs)::(gq,24,co)::M)) (rfl) fun w HM=>?_
  refine Jc ?_
  refine Kgr ?_
  refine lxv (grp P Q G H) F (Js (F.ev rfl) (HM.get 2 rfl)) fun a F=>?_
  refine lxv (num d) F (Jp (F.ev rfl) (HM.get 0 rfl)) fun a F=>?_
  refine lxv (tal P Q G H d) F (o_buildT (F.ev rfl) (F.ev rfl)) fun a F=>?_
  refine Jn F HM (Ja rfl _) rfl (by rfl) (Jce) fun a w gt F HM=>?_
  refine Jv F HM (Ja rfl _) rfl (k:=0) rfl (Jby (F.ev rfl) (F.ev rfl) (HM.get 0 rfl)) (M2:=((gt,89,tcs P Q G H d)::(gc,24,ncs d)::(gx,24,ncs T)::(gg,26,gcs P Q G H)::(gp,24,cs)::(gq,24,co)::M)) (by rw [Jhx];rfl) fun w HM=>?_
  refine Jc ?_
  refine Kgr ?_
  refine lxv (num T) F (Jp (F.ev rfl) (HM.get 2 rfl)) fun a F=>?_
  refine Jj F (Ja rfl _) rfl (by rfl) (Jh Tryz.func98 (by kernel_rfl) (by rfl) (.cons (F.ev rfl) (.cons (F.ev rfl) .nil)) _) (Jck P Q G H d T gt _ _ _ _ hQ h1 hdQ hT HM) fun a w HM F=>?_
  refine Jc ?_
  refine Kgr ?_
  refine lxv (.slice (some ⟨gp,0,none⟩) lp cap) F (Jb (F.ev rfl)) fun a F=>?_
  refine lxv (.int .i64 (i:Nat)) F (Jb (F.ev rfl)) fun a F=>?_
  refine lxv (.pointer (some ⟨gp,0+i*4,none⟩)) F (Kv hilp (F.ev rfl) (F.ev rfl)) fun a F=>?_
  refine lxv (num c) F (Kh (F.ev rfl) (hcs.c4 (HM.get 4 rfl) hpc)) fun a F=>?_
  refine Jj F (Ja rfl _) rfl (by rfl) (Jh Tryz.func162 (by kernel_rfl) (by rfl) (.cons (F.ev rfl) (.cons (F.ev rfl) .nil)) _) (tadd_any P Q G H _ c gt _ _ _ _ hQ h1 hT2 hcQ HM) fun a w HM F=>?_
  refine Jc ?_
  refine Kgr ?_
  refine lxv (.slice (some ⟨gp,0,none⟩) lp cap) F (Jb (F.ev rfl)) fun a F=>?_
  refine lxv (.int .i64 (i:Nat)) F (Jb (F.ev rfl)) fun a F=>?_
  refine lxv (.pointer (some ⟨gt,16,none⟩)) F (Vh (F.ev rfl)) fun a F=>?_
  refine lxv (num ((d*T%Q+c)%Q)) F (Wv (F.ev rfl) (HM.get 0 rfl)) fun a F=>?_
  refine lxv (.pointer (some ⟨gp,0+i*4,none⟩)) F (Kv hilp (F.ev rfl) (F.ev rfl)) fun a F=>?_
  refine Jv F HM (Ja rfl _) rfl (k:=4) rfl (Xl (F.ev rfl) (F.ev rfl) (HM.get 4 rfl) (hcs.room hil)) (M2:=((gt,89,tcs P Q G H ((d*T%Q+c)%Q))::(gc,24,ncs d)::(gx,24,ncs T)::(gg,26,gcs P Q G H)::(gp,24,((setC cs i ((d*T%Q+c)%Q))))::(gq,24,co)::M)) (rfl) fun w HM=>?_
  refine Jc ?_
  replace HM:=HM.erase 0 (M2:=((gc,24,ncs d)::(gx,24,ncs T)::(gg,26,gcs P Q G H)::(gp,24,((setC cs i ((d*T%Q+c)%Q))))::(gq,24,co)::M)) rfl
  replace HM:=HM.erase 0 (M2:=((gx,24,ncs T)::(gg,26,gcs P Q G H)::(gp,24,((setC cs i ((d*T%Q+c)%Q))))::(gq,24,co)::M)) rfl
  have hwr:IntKind.i64.wrap ((i:Int)+1)=((i+1:Nat):Int):=by rw [IntKind.wrap_i64];omega
  refine Kgr ?_
  refine lxv (.int .i64 ((i+1:Nat):Int)) F (Jz (u:=.int .i64 (i:Nat)) (v:=.int .i64 1) (fun ρ hx hy=>by simp only [execOp,hx,hy];simp [go_sem,hwr]) (F.ev rfl) rfl) fun a F=>?_
  refine lxv (.int .i64 ((i+1:Nat):Int)) F (Jb (F.ev rfl)) fun a F=>?_
  refine Jc ?_
  refine Ku ?_
  refine ⟨⟨i+1,_,by omega,by rw [← hst];exact hcs.setC hil _,by unfold setC;rw [Jeq];exact hcz,F.sub [13,1,11,12,4,7],HM⟩,?_⟩
  ·show lq-(intOf (a.tmps.getD 13 undef)).toNat<lq-(intOf (aS.tmps.getD 13 undef)).toNat
   rw [F.get 13 _ rfl,FS.get 13 _ rfl]
   show lq-((i+1:Nat):Int).toNat<lq-((i:Nat):Int).toNat
   omega
 ·refine Kgr ?_
  refine lxv (.bool false) F (Jz (u:=.int .i64 (i:Nat)) (v:=.int .i64 (lq:Nat)) (fun ρ hx hy=>by simp only [execOp,hx,hy];simp [go_sem];omega) (F.ev rfl) (F.ev rfl)) fun a F=>?_
  refine Jc ?_
  refine Kgq ?_
  refine wp_cond_false (F.ev rfl) ?_
  refine Kgq ?_
  refine wp_exit ?_
  repeat (first | refine Kk ?_ | refine Kd ?_)
  have hfin:os.take i=os:=List.take_of_length_le (by omega)
  rw [hfin] at hcs
  replace HM:=HM.erase 0 (M2:=((gg,26,gcs P Q G H)::(gp,24,cs)::(gq,24,co)::M)) rfl
  replace HM:=HM.erase 0 (M2:=((gp,24,cs)::(gq,24,co)::M)) rfl
  refine Kgq ?_
  exact bodyPost_end (Vk rfl) F.defers ⟨rfl,cs,hcs,HM,hcz⟩

theorem lessO_any (P Q G H A S gt n0 n cap but:Nat) (z:Int) (pa:Option Addr) (xs:List Nat) (M:List (Nat × TypeId × Array Value)) (w0 w:World) (hQ:Q<2^256) (h1:1<Q) (hA:A<Q) (hxs:∀ x∈xs,x<Q) (hS:S=Uq Q z) (r:RN n0 w0 pa n cap xs) (HM:Mem n0 w0 w ((gt,89,tcs P Q G H S)::M)):Calls Tryz.prog 97 #[grp P Q G H,num A,.slice pa n cap,.int .i64 (but:Nat),.func (.func 98) #[.pointer (some ⟨gt,0,none⟩)] #[]] w fun e w2=>e=.returned (.tuple #[])∧Mem n0 w0 w2 ((gt,89,tcs P Q G H (Uq Q (z*prZ A ((zs xs).eraseIdx but))))::M):=by
 refine Uf (args:=[grp P Q G H,num A,.slice pa n cap,.int .i64 (but:Nat),.func (.func 98) #[.pointer (some ⟨gt,0,none⟩)] #[]]) HM Tryz.func97 rfl Tryz.ntmps97 (by rfl) fun a F HM=>?_
 refine Kgr ?_
 refine Jn F HM (Ja rfl _) rfl (by rfl) (Km (F.ev rfl)) fun a w gg F HM=>?_
 refine Jn F HM (Ja rfl _) rfl (by rfl) (Kw (F.ev rfl)) fun a w ga F HM=>?_
 refine Jc ?_
 replace HM:=HM.front 2 rfl (M2:=((gt,89,tcs P Q G H S)::(ga,24,ncs A)::(gg,26,gcs P Q G H)::M)) rfl
 refine Kgr ?_
 refine lxv (.slice pa n cap) F (Jb (F.ev rfl)) fun a F=>?_
 refine lxv (.int .i64 (n:Nat)) F (Ko (F.ev rfl)) fun a F=>?_
 refine lxv (.int .i64 0) F (Jb rfl) fun a F=>?_
 refine Jc ?_
 refine Kgq ?_
 refine wp_loop (fun a w=>∃ i:Nat,i≤n∧Fr a 35 [(15,.int .i64 (i:Nat)),(2,.slice pa n cap),(14,.int .i64 (n:Nat)),(3,.int .i64 (but:Nat)),(4,.func (.func 98) #[.pointer (some ⟨gt,0,none⟩)] #[]),(5,.pointer (some ⟨gg,0,none⟩)),(6,.pointer (some ⟨ga,0,none⟩))] []∧Mem n0 w0 w ((gt,89,tcs P Q G H ((Uq Q (z*prZ A ((zs (xs.take i)).eraseIdx but)))))::(ga,24,ncs A)::(gg,26,gcs P Q G H)::M)) (fun a _=>n-(intOf (a.tmps.getD 15 undef)).toNat) ⟨0,Nat.zero_le _,F.sub [15,2,14,3,4,5,6],by subst hS;simpa [zs,prZ] using HM⟩ ?_
 clear F HM
 rintro aS wS ⟨i,hi,FS,HM⟩
 have F:=FS
 by_cases hlt:i<n
 ·refine Kgr ?_
  refine lxv (.bool true) F (Jz (u:=.int .i64 (i:Nat)) (v:=.int .i64 (n:Nat)) (fun ρ hx hy=>by simp only [execOp,hx,hy];simp [go_sem];omega) (F.ev rfl) (F.ev rfl)) fun a F=>?_
  refine Jc ?_
  refine Kgq ?_
  refine wp_cond_true (F.ev rfl) ?_
  refine Kgr ?_
  refine lxv (.int .i64 (i:Nat)) F (Jb (F.ev rfl)) fun a F=>?_
  refine lxv (.int .i64 (i:Nat)) F (Je (F.ev rfl)) fun a F=>?_
  refine Jc ?_
  obtain ⟨gl,ol,rfl,hil,hxb,hc⟩:=r.get hlt
  have hst:=Jfg A xs but i hil
  have hxQ:=hxs _ (List.getElem_mem hil)
  generalize xs[i]=x at *
  have hSl:=Wn h1 (z*prZ (A:Int) ((zs (xs.take i)).eraseIdx but))
  by_cases hbi:i=but
  ·refine Kgr ?_
   refine lxv (.int .i64 (i:Nat)) F (Jb (F.ev rfl)) fun a F=>?_
   refine lxv (.int .i64 (but:Nat)) F (Jb (F.ev rfl)) fun a F=>?_
   refine lxv (.bool false) F (Vn (b:=true) (decide_eq_true (by omega)) (F.ev rfl) (F.ev rfl) rfl) fun a F=>?_
   refine Jc ?_
   refine Kgq ?_
   refine wp_cond_false (F.ev rfl) ?_
   refine Kgr ?_
   refine lxv (.int .i64 ((i+1:Nat):Int)) F (Jz (u:=.int .i64 (i:Nat)) (v:=.int .i64 1) (fun ρ hx hy=>by simp only [execOp,hx,hy];simp [go_sem,r.room hlt]) (F.ev rfl) rfl) fun a F=>?_
   refine lxv (.int .i64 ((i+1:Nat):Int)) F (Jb (F.ev rfl)) fun a F=>?_
   refine Jc ?_
   rw [if_pos hbi] at hst
   rw [← hst] at HM
   refine Ku ?_
   refine ⟨⟨i+1,by omega,F.sub [15,2,14,3,4,5,6],HM⟩,?_⟩
   ·show n-(intOf (a.tmps.getD 15 undef)).toNat<n-(intOf (aS.tmps.getD 15 undef)).toNat
    rw [F.get 15 _ rfl,FS.get 15 _ rfl]
    show n-((i+1:Nat):Int).toNat<n-((i:Nat):Int).toNat
    omega
  ·refine Kgr ?_
   refine lxv (.int .i64 (i:Nat)) F (Jb (F.ev rfl)) fun a F=>?_
   refine lxv (.int .i64 (but:Nat)) F (Jb (F.ev rfl)) fun a F=>?_
   refine lxv (.bool true) F (Vn (b:=false) (decide_eq_false (by omega)) (F.ev rfl) (F.ev rfl) rfl) fun a F=>?_
   refine Jc ?_
   refine Kgq ?_
   refine wp_cond_true (F.ev rfl) ?_
   rw [if_neg hbi] at hst
   refine Kgq ?_
   refine Kg (S:=fun w'=>Mem _ _ w' ((gt,89,tcs P Q G H ((Uq Q (z*prZ A ((zs (xs.take i)).eraseIdx but)))))::(ga,24,ncs A)::(gg,26,gcs P Q G H)::M)) HM (fun _ h=>h) (by kernel_rfl) fun w HM HBW=>?_
   clear HBW
   try simp only [List.append_eq,List.cons_append,List.nil_append]
   refine Kt [⟨0,22,[],.val (grp P Q G H),true⟩,
   ⟨1,23,[0],.val (num A),true⟩,
   ⟨2,24,[1],.val (.slice (some ⟨gl,ol,none⟩) n cap),true⟩,
   ⟨3,25,[2],.val (.int .i64 (i:Nat)),true⟩,
   ⟨4,26,[2,3],.val (.pointer (some ⟨gl,ol+i*4,none⟩)),true⟩,
   ⟨5,27,[4],.val (num x),true⟩,
   ⟨10,11,[],.cell 24 (ncs 0),false⟩,
   ⟨6,28,[0,1,5],.val (.tuple #[num (((A+Q-x)%Q)),.int .i64 0]),false⟩,
   ⟨7,21,[7],.val (.tuple #[num (((A+Q-x)%Q)),.int .i64 0]),true⟩,
   ⟨8,29,[8],.val (num (((A+Q-x)%Q))),true⟩,
   ⟨9,30,[8,9],.val (.int .i64 0),true⟩] 2 _ F HM (fun _ h=>h.subl (by first | exact List.Sublist.refl _ | (repeat (first | exact List.Sublist.refl _ | refine List.Sublist.cons_cons _ ?_ | refine List.Sublist.cons _ ?_)))) (by kernel_rfl) (by rfl) ?_ ?_ ?_ ?_ ?_ ?_ ?_
   ·kernel_rfl
   ·exact of_decide_eq_true (by kernel_rfl)
   ·(repeat refine all_cons ⟨_,by rfl,by rfl⟩ ?_);exact all_nil
   ·kernel_rfl
   ·(repeat (refine all_cons ?_ ?_;rotate_left));exact all_nil
    ·exact Wt _ _ _ _ _ _ _ (by rfl) (by rfl) Jg (fun ρ w kn hs=>Js (kn _ _ (F.old (by rfl) rfl)) (hs.get 2 rfl))
    ·exact Wt _ _ _ _ _ _ _ (by rfl) (by rfl) Jg (fun ρ w kn hs=>Jp (kn _ _ (F.old (by rfl) rfl)) (hs.get 1 rfl))
    ·exact Wt _ _ _ _ _ _ _ (by rfl) (by rfl) Jg (fun ρ w kn hs=>Jb (kn _ _ (F.old (by rfl) rfl)))
    ·exact Wt _ _ _ _ _ _ _ (by rfl) (by rfl) Jg (fun ρ w kn hs=>Jb (kn _ _ (F.old (by rfl) rfl)))
    ·exact crS (fun ρ w kn hs=>Kv hlt (kn _ _ (kc 2 24)) (kn _ _ (kc 3 25)))
    ·exact crS (fun ρ w kn hs=>Kh (kn _ _ (kc 4 26)) (hc _ hs.bel))
    ·exact Jm _ (by rfl)
    ·exact Jm _ (by rfl)
    ·exact crS (fun ρ w kn hs=>Jb (kn _ _ (kc 7 28)))
    ·exact crS (fun ρ w kn hs=>Jk (kn _ _ (kc 8 21)) rfl)
    ·exact crS (fun ρ w kn hs=>Jk (kn _ _ (kc 8 21)) rfl)
   ·(repeat (refine all_cons ?_ ?_;rotate_left));exact all_nil
    all_goals try exact sA
    ·exact fun _=>Uu _ _ _ _ _ _ _ _ (by rfl) (by rfl) (Nat.le_refl _) (fun ρ w=>Jw)
    ·exact fun _=>Jl _ 100 _ _ [.tmp 22,.tmp 23,.tmp 27] _ _ _ _ _ _ _ (by rfl) Tryz.func100 (by kernel_rfl) (by rfl) (by rfl) (Jg) (.cons (kc 0 22) (.cons (kc 1 23) (.cons (kc 5 27) .nil))) ((Jdq P Q G H A x hQ h1 hA hxQ))
   intro gs rs a w hgs hrs F HM HBW HR HO HT
   obtain rfl:=nl0 rs hrs
   obtain ⟨gd,rfl⟩:=nl1 gs hgs
   clear hrs hgs HR HBW HO
   clear HT
   refine Kn (i:=11) HM (by kernel_rfl) (by rfl) rfl rfl (k:=0) rfl (Jq (F.ev rfl) (F.ev rfl) (HM.get 0 rfl)) (M2:=((gd,24,ncs (((A+Q-x)%Q)))::(gt,89,tcs P Q G H ((Uq Q (z*prZ A ((zs (xs.take i)).eraseIdx but)))))::(ga,24,ncs A)::(gg,26,gcs P Q G H)::M)) (rfl) (fun _ h=>h.subl (by first | exact List.Sublist.refl _ | (repeat (first | exact List.Sublist.refl _ | refine List.Sublist.cons_cons _ ?_ | refine List.Sublist.cons _ ?_)))) fun w HM=>?_
   refine Us (i:=12) (d:=12) (x:=.tmp 30) (v:=.int .i64 0) F ((HM.subl (by first | exact List.Sublist.refl _ | (repeat (first | exact List.Sublist.refl _ | refine List.Sublist.cons_cons _ ?_ | refine List.Sublist.cons _ ?_))))) (by kernel_rfl) (by rfl) (by rfl) (F.ev rfl) fun a F=>?_
   refine Ks (by kernel_rfl) ?_ _
   replace HM:=HM.front 1 rfl (M2:=((gt,89,tcs P Q G H ((Uq Q (z*prZ A ((zs (xs.take i)).eraseIdx but)))))::(gd,24,ncs (((A+Q-x)%Q)))::(ga,24,ncs A)::(gg,26,gcs P Q G H)::M)) rfl
   have hdl:=Nat.mod_lt (A+Q-x) (show 0<Q by omega)
   refine Kgr ?_
   refine lxv (.func (.func 98) #[.pointer (some ⟨gt,0,none⟩)] #[]) F (Jb (F.ev rfl)) fun a F=>?_
   refine lxv (num (((A+Q-x)%Q))) F (Jp (F.ev rfl) (HM.get 1 rfl)) fun a F=>?_
   refine Jj F (Ja rfl _) rfl (by rfl) (Jcm (rl:=[.pointer (some ⟨gt,0,none⟩)]) Tryz.func98 (by kernel_rfl) (by rfl) (F.ev rfl) (.cons (F.ev rfl) .nil) _) (Jck P Q G H _ _ gt _ _ _ _ hQ h1 hSl hdl HM) fun a w HM F=>?_
   refine Jc ?_
   replace HM:=HM.erase 1 (M2:=((gt,89,tcs P Q G H ((Uq Q (z*prZ A ((zs (xs.take i)).eraseIdx but))*((A+Q-x)%Q)%Q)))::(ga,24,ncs A)::(gg,26,gcs P Q G H)::M)) rfl
   refine Kgr ?_
   refine lxv (.int .i64 ((i+1:Nat):Int)) F (Jz (u:=.int .i64 (i:Nat)) (v:=.int .i64 1) (fun ρ hx hy=>by simp only [execOp,hx,hy];simp [go_sem,r.room hlt]) (F.ev rfl) rfl) fun a F=>?_
   refine lxv (.int .i64 ((i+1:Nat):Int)) F (Jb (F.ev rfl)) fun a F=>?_
   refine Jc ?_
   rw [less_mul h1 hA hxQ,← hst] at HM
   refine Ku ?_
   refine ⟨⟨i+1,by omega,F.sub [15,2,14,3,4,5,6],HM⟩,?_⟩
   ·show n-(intOf (a.tmps.getD 15 undef)).toNat<n-(intOf (aS.tmps.getD 15 undef)).toNat
    rw [F.get 15 _ rfl,FS.get 15 _ rfl]
    show n-((i+1:Nat):Int).toNat<n-((i:Nat):Int).toNat
    omega
 ·refine Kgr ?_
  refine lxv (.bool false) F (Jz (u:=.int .i64 (i:Nat)) (v:=.int .i64 (n:Nat)) (fun ρ hx hy=>by simp only [execOp,hx,hy];simp [go_sem];omega) (F.ev rfl) (F.ev rfl)) fun a F=>?_
  refine Jc ?_
  refine Kgq ?_
  refine wp_cond_false (F.ev rfl) ?_
  refine Kgq ?_
  refine wp_exit ?_
  repeat (first | refine Kk ?_ | refine Kd ?_)
  rw [List.take_of_length_le (show xs.length≤i by have:=r.1;omega)] at HM
  replace HM:=HM.erase 1 (M2:=((gt,89,tcs P Q G H ((Uq Q (z*prZ A ((zs xs).eraseIdx but)))))::(gg,26,gcs P Q G H)::M)) rfl
  replace HM:=HM.erase 1 (M2:=((gt,89,tcs P Q G H ((Uq Q (z*prZ A ((zs xs).eraseIdx but)))))::M)) rfl
  refine Kgq ?_
  exact bodyPost_end (Vk rfl) F.defers ⟨rfl,HM⟩

end Go.Proofs.YtmmgmljkmmgjdaaGreatDoor
