import Derived.Deep.Cut
import Derived.Maps.OwnSet
import Derived.WideKeyRuns
import Derived.Test.YtcbnmdkmfdjpiaaMP3
import Derived.Test.YtcbnmdkmfdjpiaaMShort
namespace Go.Proofs.Ytcbnmdkmfdjpiaa
set_option maxRecDepth 100000
open Go.RowKit
set_option linter.unusedSimpArgs false
set_option linter.unusedVariables false
attribute [local go_sem ↓] Go.wp_at_zero Go.wp_at_succ

theorem RN.call {n0:Nat} {w0 w:World} {a:Option Addr} {n cap:Nat} {xs:List Nat} (h:RN n0 w0 a n cap xs) (hb:Below n0 w0 w) (hn:n0≤w.heap.size):RN w.heap.size w a n cap xs:=⟨h.1,(h.2.below hb).up hn⟩
def MapIs (w:World) (b:Nat) (ys:List Nat):Prop:=∃ (es:Array MapEntry) (clock:Nat),w.heap[b]? = some (.map es clock)∧es.toList.map (·.key)=ys.map fun y=>num y
theorem MapIs.on {w w':World} {b:Nat} {ys:List Nat} (h:MapIs w b ys) (hb:Below w.heap.size w w'):MapIs w' b ys:=by
 obtain ⟨es,c,h1,h2⟩:=h
 exact ⟨es,c,(hb.block b (Array.getElem?_eq_some_iff.1 h1).1).trans h1,h2⟩
theorem run_checkNum (e:Bool) (X:Nat) (w:World):(Instr.checkKey e 10000 24 (num X)).run Try.prog w=.ok () w:=by
 have u3:=Try.underlying22
 have a3:=Try.isAgg22
 have z3:=Try.sizeOf22
 have hu:∀ (k:Int),(Instr.checkKey e (9998+1) 22 (.int .u64 k)).run Try.prog w=.ok () w:=fun k=>by rw [Instr.checkKey];simp [run_underlying u3]
 rw [show (10000:Nat)=9998+1+1 from rfl]
 generalize 9998+1=m at hu ⊢
 rw [Instr.checkKey]
 simp only [Sem.run_bind,run_underlying Try.underlying24,Result.andThen_ok]
 simp only [Std.Legacy.Range.forIn_eq_forIn_range',Std.Legacy.Range.size,Nat.sub_zero,Nat.add_sub_cancel,Nat.div_one,List.range'_succ,List.range'_zero,List.forIn_cons,List.forIn_nil]
 simp [go_sem,part,a3,z3,hu]
theorem run_findNum (X:Nat) (hX:X<2^256) (w:World):∀ (es:List MapEntry) (ys:List Nat) (i:Nat),es.map (·.key)=ys.map (fun y=>num y)→(∀ y∈ys,y<2^256) →
  ((Instr.findAsking 24 (num X) es i).run Try.prog w=.ok none w∧X ∉ ys)∨∃ j e,(Instr.findAsking 24 (num X) es i).run Try.prog w=.ok (some (i+j,e.val)) w∧es[j]? = some e∧e.key=num X∧X∈ys
 | [],[],i,_,_=>Or.inl ⟨by simp [Instr.findAsking],by simp⟩
 | [],_::_,_,h,_=>by simp at h
 | _::_,[],_,h,_=>by simp at h
 | e::es,y::ys,i,h,hb=>by
  simp only [List.map_cons,List.cons.injEq] at h
  obtain ⟨hk,ht⟩:=h
  have heq:(Op.equal 24 (num X) e.key).run Try.prog w=.ok (decide (X=y)) w:=by rw [hk];exact eqN X y hX (hb y List.mem_cons_self) w
  by_cases hxy:X=y
  ·right
   refine ⟨0,e,?_,rfl,by rw [hk,hxy],by rw [hxy];exact List.mem_cons_self⟩
   rw [decide_eq_true hxy] at heq
   simp [Instr.findAsking,heq]
  ·rw [decide_eq_false hxy] at heq
   rcases run_findNum X hX w es ys (i+1) ht (fun y hy=>hb y (List.mem_cons_of_mem _ hy)) with ⟨h1,h2⟩ | ⟨j,e',h1,h2,h3,h4⟩
   ·exact Or.inl ⟨by simp [Instr.findAsking,heq,h1],by simp [hxy,h2]⟩
   ·exact Or.inr ⟨j+1,e',by simp [Instr.findAsking,heq,h1,Nat.add_assoc,Nat.add_comm 1 j],by simpa using h2,h3,List.mem_cons_of_mem _ h4⟩
theorem sameNum (X:Nat):Instr.sameBits 10000 (num X) (num X)=true:=by
 rw [show (10000:Nat)=9998+1+1 from rfl]
 simp [Instr.sameBits]
theorem run_mapSet (X b:Nat) (hX:X<2^256) (w:World) (ys:List Nat) (hy:∀ y∈ys,y<2^256) (h:MapIs w b ys) (v:Value) :
  ∃ w',(Instr.mapUpdate 76 (.map (some b)) (num X) v).run Try.prog w=.ok () w'∧MapIs w' b (if X∈ys then ys else ys++[X])∧w.grownBy w' (some b):=by
 obtain ⟨es,clock,hb,hk⟩:=h
 have hg:∀ es' clock',w.grownBy (ChangeMaps.setBlock w b (.map es' clock')) (some b):=fun es' clock'=>World.mapTurned.grown ⟨es,clock,es',clock',hb,rfl⟩
 have hat:∀ es' clock',(ChangeMaps.setBlock w b (.map es' clock')).heap[b]? = some (.map es' clock'):=fun es' clock'=>ChangeMaps.heap_setBlock_same hb _
 have hf:(Instr.findKey 24 (num X) es.toList).run Try.prog w=(Instr.findAsking 24 (num X) es.toList).run Try.prog w:=run_findKey_eq w (by rw [Try.underlying24]) _ _
 rcases run_findNum X hX w es.toList ys 0 hk hy with ⟨h1,h2⟩ | ⟨j,e,h1,h2,h3,h4⟩
 ·rw [if_neg h2]
  refine ⟨_,?_,⟨_,_,hat (es.push ⟨num X,v,clock⟩) (clock+1),?_⟩,hg _ _⟩
  ·simp [Instr.mapUpdate,run_underlying Try.underlying76,MapKept.run_getObj_map hb,run_checkNum,hf,h1,MapKept.run_setObj_map _ hb,ChangeMaps.setBlock]
  ·simp [hk]
 ·rw [if_pos h4]
  rw [Nat.zero_add] at h1
  have hj:es[j]? = some e:=by simpa using h2
  refine ⟨_,?_,⟨_,_,hat (es.modify j fun e=>{ e with key:=num X,val:=v }) clock,?_⟩,hg _ _⟩
  ·simp [Instr.mapUpdate,run_underlying Try.underlying76,MapKept.run_getObj_map hb,run_checkNum,hf,h1,hj,h3,Instr.keyThatStays,sameNum,MapKept.run_setObj_map _ hb,ChangeMaps.setBlock]
  ·rw [← hk]
   apply List.ext_getElem?
   intro i
   by_cases hij:j=i
   ·subst hij
    simp [Array.getElem?_modify,hj,h3]
   ·simp [Array.getElem?_modify,hij]
def Jfr (Q:Nat) (xs:List Nat):Bool:=decide (xs≠[]) && decide xs.Nodup && Jbr Q xs
theorem ptsB_iff {Q:Nat} {xs:List Nat}:Jfr Q xs=true ↔ xs≠[]∧xs.Nodup∧Jbr Q xs=true:=by
 unfold Jfr
 simp [and_assoc]
section
variable {ops:Array Oper} {Q:Exit→Act→World→Prop} {a:Act} {w w0:World} {rest:List Oper} {o:Oper} {N:Nat} {L:List (Nat × Value)} {df:List Deferred} {dst:Option Tmp} {x y z:Operand} {ty:TypeId} {pos:String} {after:Array Edge} {gd:Option (Nat × Bool)} {ρ:Operand→Value}
theorem lx_skip {P:Program} {w':World} (F:Fr a N L df) (hw:Region.wanted o (yielded ops a.tmps)=true) (hdst:o.dst=none) (hr:(execOp a.eval o).run P w=.ok .skip w')
  (h:wpList P ops Q rest a w'):wpList P ops Q (o::rest) a w:=by
 unfold wpList
 rw [if_pos hw]
 left
 unfold Oper.wp
 rw [hr]
 show wpList P ops Q rest (a.put o.dst undef) w'
 rw [hdst]
 exact h
theorem o_makeMap:(execOp ρ ⟨dst,.makeMap 76 none,ty,pos,after,gd⟩).run Try.prog w=.ok (.value (.map (some w.heap.size))) (w.alloc (.map #[] 0)):=by
 have:=run_makeMap (P:=Try.prog) 76 w
 simp [execOp,this]
theorem o_unit:(execOp ρ ⟨dst,.build 77 #[],ty,pos,after,gd⟩).run Try.prog w=.ok (.value (.agg #[])) w:=by simp [execOp,go_sem]
theorem o_mapSet {b X:Nat} {ys:List Nat} (hX:X<2^256) (hy:∀ y∈ys,y<2^256) (h:MapIs w b ys) (hm:ρ x=.map (some b)) (hk:ρ y=num X) (hv:ρ z=.agg #[]) :
  ∃ w',(execOp ρ ⟨dst,.mapUpdate 76 x y z,ty,pos,after,gd⟩).run Try.prog w=.ok .skip w'∧MapIs w' b (if X∈ys then ys else ys++[X])∧w.grownBy w' (some b):=by
 obtain ⟨w',h1,h2,h3⟩:=run_mapSet X b hX w ys hy h (.agg #[])
 refine ⟨w',?_,h2,h3⟩
 simp [execOp,hm,hk,hv,h1]
theorem o_lenM {b:Nat} {ys:List Nat} (h:MapIs w b ys) (hm:ρ x=.map (some b)):(execOp ρ ⟨dst,.call ⟨.builtin .len,#[x],#[76]⟩,ty,pos,after,gd⟩).run Try.prog w=.ok (.value (.int .i64 (ys.length:Nat))) w:=by
 obtain ⟨es,clock,hb,hk⟩:=h
 have hl:es.size=ys.length:=by have:=congrArg List.length hk;simpa using this
 simp [execOp,hm,go_sem,Builtin.len_,run_underlying Try.underlying76,MapKept.run_getObj_map hb,hl]
end
theorem MapIs.obj {w:World} {b:Nat} {ys:List Nat} (h:MapIs w b ys):∃ o:Obj,w.heap[b]? = some o∧o.isCells=false:=by
 obtain ⟨es,c,h1,_⟩:=h
 exact ⟨_,h1,rfl⟩
set_option maxRecDepth 100000 in
set_option maxHeartbeats 800000 in
theorem arePts_any (P Q G H n cap:Nat) (pa:Option Addr) (xs:List Nat) (w0:World) (hQ:Q<2^256) (r:RN w0.heap.size w0 pa n cap xs):Calls Try.prog 29 #[grp P Q G H,.slice pa n cap] w0 fun e w'=>e=.returned (.bool (Jfr Q xs))∧Below w0.heap.size w0 w':=by
 refine Ka (args:=[grp P Q G H,.slice pa n cap]) Try.func29 rfl Try.ntmps29 (by rfl) fun a F HM=>?_
 refine Kgr ?_
 refine Jn F HM (Ja rfl _) rfl (by rfl) (Kl (F.ev rfl)) fun a w gg F HM=>?_
 refine lxv (.bool false) F (Jg rfl) fun a F=>?_
 refine Jf ?_
 refine Kgr ?_
 refine Uy (v:=.map (some w.heap.size)) F (Ja rfl _) rfl (by rfl) o_makeMap fun a F=>?_
 have hM0:MapIs (w.alloc (.map #[] 0)) w.heap.size []:=⟨#[],0,heap_alloc_new w _,rfl⟩
 have HMx:=HM
 have HM:=HM.on ((Below.refl w.heap.size w).alloc (Nat.le_refl _) (.map #[] 0))
 have hbw:w0.heap.size≤w.heap.size:=HMx.bel.size
 obtain ⟨w1,hw1⟩:∃ w1,w1=w.alloc (.map #[] 0):=⟨_,rfl⟩
 rw [← hw1] at HM hM0 ⊢
 clear hw1 HMx
 obtain ⟨b,hb⟩:∃ b,b=w.heap.size:=⟨_,rfl⟩
 rw [← hb] at hM0 hbw F
 clear hb
 refine lxv (.map (some b)) F (Jg (F.ev rfl)) fun a F=>?_
 refine Jf ?_
 refine Kgr ?_
 refine lxv (.slice pa n cap) F (Jb (F.ev rfl)) fun a F=>?_
 refine lxv (.int .i64 (n:Nat)) F (Ui (F.ev rfl)) fun a F=>?_
 refine lxv (.int .i64 0) F (Jb rfl) fun a F=>?_
 refine Jf ?_
 refine Kgq ?_
 refine wp_loop (fun a w=>∃ (i:Nat) (ys:List Nat),i≤n∧Fr a 35 [(10,.int .i64 (i:Nat)),(1,.slice pa n cap),(9,.int .i64 (n:Nat)),(5,.map (some b)),(2,.pointer (some ⟨gg,0,none⟩))] []∧Mem w0.heap.size w0 w [(gg,26,gcs P Q G H)]∧MapIs w b ys∧(∀ y∈ys,y<2^256)∧(∀ y,y∈ys ↔ y∈xs.take i)∧ys.length≤i∧(ys.length=i ↔ (xs.take i).Nodup)) (fun a _=>n-(intOf (a.tmps.getD 10 undef)).toNat) ⟨0,[],Nat.zero_le _,F.sub [10,1,9,5,2],HM,hM0,by simp,by simp,Nat.le_refl _,by simp⟩ ?_
 clear F HM hM0
 rintro aS wS ⟨i,ys,hi,FS,HM,hMI,hyb,hym,hyl,hyn⟩
 have F:=FS
 by_cases hlt:i<n
 ·refine Kgr ?_
  refine lxv (.bool true) F (Kh (u:=.int .i64 (i:Nat)) (v:=.int .i64 (n:Nat)) (fun ρ hx hy=>by simp only [execOp,hx,hy];simp [go_sem];omega) (F.ev rfl) (F.ev rfl)) fun a F=>?_
  refine Jf ?_
  refine Kgq ?_
  refine wp_cond_true (F.ev rfl) ?_
  refine Kgr ?_
  refine lxv (.int .i64 (i:Nat)) F (Jb (F.ev rfl)) fun a F=>?_
  refine lxv (.int .i64 (i:Nat)) F (Jg (F.ev rfl)) fun a F=>?_
  refine Jf ?_
  obtain ⟨gl,ol,rfl,hil,hxb,hc⟩:=r.get hlt
  have htk:xs.take (i+1)=xs.take i++[xs[i]]:=List.take_succ_eq_append_getElem hil
  generalize xs[i]=x at *
  refine Kgr ?_
  refine lxv (.map (some b)) F (Jb (F.ev rfl)) fun a F=>?_
  refine lxv (.slice (some ⟨gl,ol,none⟩) n cap) F (Jb (F.ev rfl)) fun a F=>?_
  refine lxv (.int .i64 (i:Nat)) F (Jb (F.ev rfl)) fun a F=>?_
  refine lxv (.pointer (some ⟨gl,ol+i*4,none⟩)) F (Vx hlt (F.ev rfl) (F.ev rfl)) fun a F=>?_
  refine lxv (num x) F (Va (F.ev rfl) (hc _ HM.bel)) fun a F=>?_
  refine Uy (v:=.agg #[]) F (Ja rfl _) rfl (by rfl) o_unit fun a F=>?_
  obtain ⟨w2,hrun,hM2,hgr⟩:=o_mapSet (x:=.tmp 13) (y:=.tmp 17) (z:=.tmp 18) hxb hyb hMI (F.ev rfl) (F.ev rfl) (F.ev rfl)
  refine lx_skip F (Ja rfl _) rfl hrun ?_
  replace HM:=HM.grown hgr (fun r e=>by cases e;exact ⟨hbw,hMI.obj⟩)
  clear hrun hgr hMI
  refine Jf ?_
  refine Kgr ?_
  refine lxv (.int .i64 ((i+1:Nat):Int)) F (Kh (u:=.int .i64 (i:Nat)) (v:=.int .i64 1) (fun ρ hx hy=>by simp only [execOp,hx,hy];simp [go_sem,r.room hlt]) (F.ev rfl) rfl) fun a F=>?_
  refine lxv (.int .i64 ((i+1:Nat):Int)) F (Jb (F.ev rfl)) fun a F=>?_
  refine Jf ?_
  refine Jv ?_
  refine ⟨⟨i+1,_,by omega,F.sub [10,1,9,5,2],HM,hM2,?_,?_,?_,?_⟩,?_⟩
  ·intro y hy;split at hy
   ·exact hyb y hy
   ·rcases List.mem_append.1 hy with hy | hy
    ·exact hyb y hy
    ·rw [List.mem_singleton.1 hy];exact hxb
  ·intro y;rw [htk,List.mem_append,List.mem_singleton,← hym];split
   ·rename_i hx;exact ⟨Or.inl,fun h=>h.elim id fun e=>e ▸ hx⟩
   ·rw [List.mem_append,List.mem_singleton]
  ·split
   ·omega
   ·rw [List.length_append,List.length_singleton];omega
  ·rw [htk,List.nodup_append,← hyn];split
   ·rename_i hx;exact ⟨fun h=>by omega,fun h=>absurd rfl (h.2.2 x ((hym x).1 hx) x (by simp))⟩
   ·rename_i hx;rw [List.length_append,List.length_singleton];exact ⟨fun h=>⟨by omega,by simp,fun y hy z hz=>by rw [List.mem_singleton.1 hz];intro e;exact hx (e ▸ (hym y).2 hy)⟩,fun h=>by omega⟩
  ·show n-(intOf (a.tmps.getD 10 undef)).toNat<n-(intOf (aS.tmps.getD 10 undef)).toNat
   rw [F.get 10 _ rfl,FS.get 10 _ rfl]
   show n-((i+1:Nat):Int).toNat<n-((i:Nat):Int).toNat
   omega
 ·refine Kgr ?_
  refine lxv (.bool false) F (Kh (u:=.int .i64 (i:Nat)) (v:=.int .i64 (n:Nat)) (fun ρ hx hy=>by simp only [execOp,hx,hy];simp [go_sem];omega) (F.ev rfl) (F.ev rfl)) fun a F=>?_
  refine Jf ?_
  refine Kgq ?_
  refine wp_cond_false (F.ev rfl) ?_
  refine Kgq ?_
  refine wp_exit ?_
  repeat (first | refine Us ?_ | refine Un ?_)
  have hin:i=n:=by omega
  rw [hin] at hyn hyl hym
  rw [List.take_of_length_le (Nat.le_of_eq r.1)] at hyn hym
  have hz0:(xs≠[]) ↔ 0<n:=by rw [← r.1];exact List.length_pos_iff.symm
  have hk:=r.len
  by_cases h0:0<n
  ·by_cases hq:ys.length=n
   ·refine Kgr ?_
    refine lxv (.slice pa n cap) F (Jb (F.ev rfl)) fun a F=>?_
    refine lxv (.int .i64 (n:Nat)) F (Ui (F.ev rfl)) fun a F=>?_
    refine lxv (.bool true) F (Kh (u:=.int .i64 (n:Nat)) (v:=.int .i64 0) (fun ρ hx hy=>by simp only [execOp,hx,hy];simp [go_sem];omega) (F.ev rfl) rfl) fun a F=>?_
    refine lxv (.bool true) F (Jb (F.ev rfl)) fun a F=>?_
    refine lxw 23 true (.map (some b)) F (Jb (F.ev rfl)) fun a F=>?_
    refine lxw 23 true (.int .i64 (ys.length:Nat)) F (o_lenM hMI (F.ev rfl)) fun a F=>?_
    refine lxw 23 true (.slice pa n cap) F (Jb (F.ev rfl)) fun a F=>?_
    refine lxw 23 true (.int .i64 (n:Nat)) F (Ui (F.ev rfl)) fun a F=>?_
    refine lxw 23 true (.bool true) F (Kh (u:=.int .i64 (ys.length:Nat)) (v:=.int .i64 (n:Nat)) (fun ρ hx hy=>by simp only [execOp,hx,hy];simp [go_sem];omega) (F.ev rfl) (F.ev rfl)) fun a F=>?_
    refine lxv (.bool true) F (Jt (b:=true) (r:=.bool true) (F.ev rfl) (F.ev rfl) rfl rfl) fun a F=>?_
    refine lxv (.bool true) F (Jb (F.ev rfl)) fun a F=>?_
    refine lxw 30 true (grp P Q G H) F (Jr (F.ev rfl) (HM.get 0 rfl)) fun a F=>?_
    refine lxw 30 true (.slice pa n cap) F (Jb (F.ev rfl)) fun a F=>?_
    refine Jp F (F.want (t:=30) (c:=true) rfl rfl rfl (by rfl) rfl) rfl (by rfl) (Jh Try.func28 (by kernel_rfl) (by rfl) (.cons (F.ev rfl) (.cons (F.ev rfl) .nil)) _) (areExp_any P Q G H n cap pa xs _ hQ (r.call HM.bel HM.bel.size)) fun a w z F=>?_
    replace HM:=HM.on z
    clear z
    refine lxv (.bool ((Jbr Q xs))) F (Jt (b:=true) (r:=.bool ((Jbr Q xs))) (F.ev rfl) (F.ev rfl) rfl rfl) fun a F=>?_
    refine lxv (.bool ((Jbr Q xs))) F (Jg (F.ev rfl)) fun a F=>?_
    refine Jf ?_
    have hV:Jfr Q xs=Jbr Q xs:=by unfold Jfr;rw [decide_eq_true (hz0.2 h0),decide_eq_true (hyn.1 hq)];rfl
    rw [hV]
    refine Kgq ?_
    refine wp_ret ?_
    repeat (first | refine Ju ?_ | refine Jo ?_)
    exact Kt F HM (Kq F rfl (s:=4) rfl)
   ·refine Kgr ?_
    refine lxv (.slice pa n cap) F (Jb (F.ev rfl)) fun a F=>?_
    refine lxv (.int .i64 (n:Nat)) F (Ui (F.ev rfl)) fun a F=>?_
    refine lxv (.bool true) F (Kh (u:=.int .i64 (n:Nat)) (v:=.int .i64 0) (fun ρ hx hy=>by simp only [execOp,hx,hy];simp [go_sem];omega) (F.ev rfl) rfl) fun a F=>?_
    refine lxv (.bool true) F (Jb (F.ev rfl)) fun a F=>?_
    refine lxw 23 true (.map (some b)) F (Jb (F.ev rfl)) fun a F=>?_
    refine lxw 23 true (.int .i64 (ys.length:Nat)) F (o_lenM hMI (F.ev rfl)) fun a F=>?_
    refine lxw 23 true (.slice pa n cap) F (Jb (F.ev rfl)) fun a F=>?_
    refine lxw 23 true (.int .i64 (n:Nat)) F (Ui (F.ev rfl)) fun a F=>?_
    refine lxw 23 true (.bool false) F (Kh (u:=.int .i64 (ys.length:Nat)) (v:=.int .i64 (n:Nat)) (fun ρ hx hy=>by simp only [execOp,hx,hy];simp [go_sem];omega) (F.ev rfl) (F.ev rfl)) fun a F=>?_
    refine lxv (.bool false) F (Jt (b:=true) (r:=.bool false) (F.ev rfl) (F.ev rfl) rfl rfl) fun a F=>?_
    refine lxv (.bool false) F (Jb (F.ev rfl)) fun a F=>?_
    refine lxp 30 false F fun a F=>?_
    refine lxp 30 false F fun a F=>?_
    refine lxp 30 false F fun a F=>?_
    refine lxv (.bool false) F (Jt (b:=false) (r:=.bool false) (F.ev rfl) (F.ev rfl) rfl rfl) fun a F=>?_
    refine lxv (.bool false) F (Jg (F.ev rfl)) fun a F=>?_
    refine Jf ?_
    have hV:Jfr Q xs=false:=Bool.eq_false_iff.2 fun h=>hq (hyn.2 (ptsB_iff.1 h).2.1)
    rw [hV]
    refine Kgq ?_
    refine wp_ret ?_
    repeat (first | refine Ju ?_ | refine Jo ?_)
    exact Kt F HM (Kq F rfl (s:=4) rfl)
  ·refine Kgr ?_
   refine lxv (.slice pa n cap) F (Jb (F.ev rfl)) fun a F=>?_
   refine lxv (.int .i64 (n:Nat)) F (Ui (F.ev rfl)) fun a F=>?_
   refine lxv (.bool false) F (Kh (u:=.int .i64 (n:Nat)) (v:=.int .i64 0) (fun ρ hx hy=>by simp only [execOp,hx,hy];simp [go_sem];omega) (F.ev rfl) rfl) fun a F=>?_
   refine lxv (.bool false) F (Jb (F.ev rfl)) fun a F=>?_
   refine lxp 23 false F fun a F=>?_
   refine lxp 23 false F fun a F=>?_
   refine lxp 23 false F fun a F=>?_
   refine lxp 23 false F fun a F=>?_
   refine lxp 23 false F fun a F=>?_
   refine lxv (.bool false) F (Jt (b:=false) (r:=.bool false) (F.ev rfl) (F.ev rfl) rfl rfl) fun a F=>?_
   refine lxv (.bool false) F (Jb (F.ev rfl)) fun a F=>?_
   refine lxp 30 false F fun a F=>?_
   refine lxp 30 false F fun a F=>?_
   refine lxp 30 false F fun a F=>?_
   refine lxv (.bool false) F (Jt (b:=false) (r:=.bool false) (F.ev rfl) (F.ev rfl) rfl rfl) fun a F=>?_
   refine lxv (.bool false) F (Jg (F.ev rfl)) fun a F=>?_
   refine Jf ?_
   have hV:Jfr Q xs=false:=Bool.eq_false_iff.2 fun h=>h0 (hz0.1 (ptsB_iff.1 h).1)
   rw [hV]
   refine Kgq ?_
   refine wp_ret ?_
   repeat (first | refine Ju ?_ | refine Jo ?_)
   exact Kt F HM (Kq F rfl (s:=4) rfl)

end Go.Proofs.Ytcbnmdkmfdjpiaa
