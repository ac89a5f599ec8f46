/-
 sigs: what follows in a group of small primes.
-/
import Derived.Deep.Cut
import Derived.Test.YtlphnfajhpkleaaDoorMSg4
import Derived.Test.YtlphnfajhpkleaaDoorMSmall
namespace Go.Proofs.YtlphnfajhpkleaaDoor
set_option maxRecDepth 100000
open Go.RowKit
set_option linter.unusedSimpArgs false
set_option linter.unusedVariables false
attribute [local go_sem ↓] Go.wp_at_zero Go.wp_at_succ

theorem inv_ex {Q a:Nat} (h1:1<Q) (h:Nat.gcd a Q=1):∃ V,V<Q∧a*V%Q=1:=by
 obtain ⟨b,k,hk⟩:=U.of_gcd h1 h
 refine ⟨sofN Q b,sof_lt h1 _,?_⟩
 have h2:Cg Q ((a*sofN Q b%Q:Nat):Int) ((1:Nat):Int):=by
  rw [Int.natCast_emod,Int.natCast_mul]
  exact (Cg.emod Q _).trans ((Cg.mulL (a:Int) (sof_cg h1 b)).trans ⟨k,hk⟩)
 exact Cg.eq (Nat.mod_lt _ (by omega)) h1 h2
theorem ord_iff {P Q G m:Nat} (hq:Pr.Pri Q) (h1:1<P) (hG:G^Q%P=1) (hne:G%P≠1):G^m%P=1 ↔ Q∣m:=by
 constructor
 ·intro hm
  rcases hq.2 _ (Nat.gcd_dvd_right m Q) with e | e
  ·exfalso
   obtain ⟨V,hV,hmV⟩:=inv_ex hq.1 e
   have h2:G^(m*V)%P=1:=by rw [Nat.pow_mul,Nat.pow_mod,hm,Nat.one_pow,Nat.mod_eq_of_lt h1]
   have h3:m*V=Q*(m*V/Q)+1:=by have:=Nat.div_add_mod (m*V) Q;omega
   rw [h3,Nat.pow_add,Nat.pow_one,Nat.pow_mul,Nat.mul_mod,Nat.pow_mod,hG,Nat.one_pow,Nat.mod_eq_of_lt h1,Nat.one_mul,Nat.mod_mod] at h2
   exact hne h2
  ·exact e ▸ Nat.gcd_dvd_left m Q
 ·rintro ⟨k,rfl⟩
  rw [Nat.pow_mul,Nat.pow_mod,hG,Nat.one_pow,Nat.mod_eq_of_lt h1]
/-- a group of prime order -/
structure Gd (P Q G:Nat):Prop where
 hP:P<2^256
 hQ:Q<2^256
 hG:G<2^256
 pri:Pr.Pri Q
 h1:1<P
 may:mayB P G=true
 pow:G^Q%P=1
 ne:G%P≠1
theorem gd_of {P Q G H:Nat} (hP:P<2^256) (hQ:Q<2^256) (hG:G<2^256) (h:goodB P Q G H=true):Gd P Q G∧wd Q 0=Q∧Q<2147483648:=by
 simp only [goodB,Bool.and_eq_true,Bool.not_eq_true',decide_eq_false_iff_not] at h
 rw [Bool.or_eq_false_iff,Bool.or_eq_false_iff] at h
 simp only [decide_eq_false_iff_not] at h
 obtain ⟨⟨⟨b0,b1⟩,b2⟩,⟨⟨⟨⟨c0,c1⟩,c2⟩,c3⟩,c4⟩,c5⟩:=h
 have q1:Q<2^31:=Nat.lt_of_lt_of_le (bl_spec Q).1 (Nat.pow_le_pow_right (by decide) (by omega))
 have p1:P<2^32:=Nat.lt_of_lt_of_le (bl_spec P).1 (Nat.pow_le_pow_right (by decide) (by omega))
 have e:wd Q 0=Q:=by unfold wd;rw [Nat.pow_zero,Nat.div_one,Nat.mod_eq_of_lt (by omega)]
 have e2:wd P 0=P:=by unfold wd;rw [Nat.pow_zero,Nat.div_one,Nat.mod_eq_of_lt (by omega)]
 rw [e] at c1
 rw [e2] at c0
 obtain ⟨⟨g0,g1⟩,g2⟩:=inB_iff.1 c2
 refine ⟨⟨hP,hQ,hG,(smallB_pri.1 c1).2,(smallB_pri.1 c0).2.1,by unfold mayB;simp [g0,g1],g2,by rw [Nat.mod_eq_of_lt g1];exact c4⟩,e,by omega⟩
theorem pow_may {P Q G x:Nat} (g:Gd P Q G):mayB P (G^x%P)=true:=by
 have h1:=g.h1
 have hlt:G^x%P<P:=Nat.mod_lt _ (by omega)
 have hne:G^x%P≠0:=fun e=>by
  have h2:(G^x)^Q%P=1:=by rw [← Nat.pow_mul,Nat.mul_comm,Nat.pow_mul,Nat.pow_mod,g.pow,Nat.one_pow,Nat.mod_eq_of_lt h1]
  rw [Nat.pow_mod,e,Nat.zero_pow (by have:=g.pri.1;omega),Nat.zero_mod] at h2
  cases h2
 unfold mayB
 rw [decide_eq_true hne,decide_eq_true hlt];rfl
theorem g23:Gd 23 11 4:=⟨by decide,by decide,by decide,⟨by decide,fun d hd=>(by decide:∀ d,d<12→d∣11→d=1∨d=11) d (by have:=Nat.le_of_dvd (by decide) hd;omega) hd⟩,by decide,by decide,by decide,by decide⟩
theorem pow_Q {P Q G:Nat} (h1:1<P) (hG:G^Q%P=1) (a:Nat):G^a%P=G^(a%Q)%P:=by
 conv=>lhs;rw [← Nat.div_add_mod a Q,Nat.pow_add,Nat.mul_mod,Pr.pow_one_mul h1 hG,Nat.one_mul,Nat.mod_mod]
theorem pow_cg {P Q G a b:Nat} (h1:1<P) (hG:G^Q%P=1) (h:a%Q=b%Q):G^a%P=G^b%P:=by
 rw [pow_Q h1 hG a,pow_Q h1 hG b,h]
theorem prV_2 (P G S x L:Nat):prV P [G,G^S%P] [x,L]=G^(x+S*L)%P:=by
 show (1*(G^x%P)%P)*((G^S%P)^L%P)%P=_
 rw [Nat.one_mul,Nat.mod_mod,← Nat.pow_mod,← Nat.pow_mul,← Nat.mul_mod,← Nat.pow_add]
theorem key_pow {P Q G S:Nat} (g:Gd P Q G) (h0:S≠0) (hS:S<Q):keyB P Q (G^S%P)=true:=by
 have h1:=g.h1
 have hne:¬ G^S%P=1:=fun e=>by
  have:=Nat.le_of_dvd (by omega) ((ord_iff g.pri g.h1 g.pow g.ne).1 e)
  omega
 have hp:(G^S%P)^Q%P=1:=by
  rw [← Nat.pow_mod,← Nat.pow_mul,Nat.mul_comm,Nat.pow_mul,Nat.pow_mod,g.pow,Nat.one_pow,Nat.mod_eq_of_lt h1]
 unfold keyB inB
 rw [decide_eq_false hne,pow_may g,decide_eq_true hp];rfl
theorem exp_2 {Q a b:Nat} (h1:1<Q) (ha:a<Q) (hb:b<Q):expB Q [a,b]=true:=by
 simp [expB,h1,ha,hb]
/-- what is checked of a key that is a power -/
theorem chk_eq {P Q G S c x e:Nat} (g:Gd P Q G) (h:Nat→Nat) (h0:S≠0) (hS:S<Q) (hc:c<Q) (hx:x<Q) (he:(x+S*((0+Q-c)%Q))%Q=e%Q):chkB P Q G (G^S%P) h c x=decide (c=chl Q (G^S%P) (G^e%P) h):=by
 have h1:=g.pri.1
 have hm:=g.may
 have hpr:prB P [G,G^S%P] [x,(0+Q-c)%Q]=true:=by
  unfold prB
  rw [decide_eq_true g.h1]
  simp [hm,pow_may g]
 unfold chkB
 rw [exp_2 (by omega) hc hx,key_pow g h0 hS,hpr,prV_2,pow_cg g.h1 g.pow he]
 simp
theorem sig_sum {Q S D c b:Nat} (hc:c<Q):(((D+S*c%Q)%Q+b)%Q+S*((0+Q-c)%Q))%Q=(D+b)%Q:=by
 have h1:D+S*c+b+S*(0+Q-c)=D+b+S*Q:=by
  have:S*c+S*(0+Q-c)=S*Q:=by rw [← Nat.mul_add];congr 1;omega
  omega
 have h2:(((D+S*c%Q)%Q+b)%Q+S*((0+Q-c)%Q))%Q=(D+S*c+b+S*(0+Q-c))%Q:=by
  simp only [Nat.add_mod,Nat.mul_mod,Nat.mod_mod]
 rw [h2,h1,Nat.add_mul_mod_self_right]
theorem signB_of {P Q G S D:Nat} (g:Gd P Q G) (hS0:S≠0) (hD0:D≠0) (hS:S<Q) (hD:D<Q):signB P Q G S D=true:=by
 have h1:=g.pri.1
 unfold signB
 rw [decide_eq_false hS0,decide_eq_false hD0,exp_2 (by omega) hS hD,g.may];rfl
theorem sgC_lt {P Q G S D:Nat} (g:Gd P Q G) (h:Nat→Nat):sgC P Q G h S D<Q:=chl_lt (by have:=g.pri.1;omega) _ _ _
theorem sgS_lt {P Q G S D:Nat} (g:Gd P Q G) (h:Nat→Nat):sgS P Q G h S D<Q:=Nat.mod_lt _ (by have:=g.pri.1;omega)
/-- what is signed,moved along -/
theorem chk_moved {P Q G S D b:Nat} (g:Gd P Q G) (h:Nat→Nat) (hS0:S≠0) (hS:S<Q):chkB P Q G (G^S%P) h (sgC P Q G h S D) ((sgS P Q G h S D+b)%Q)=decide (sgC P Q G h S D=sgC P Q G h S ((D+b)%Q)):=by
 rw [chk_eq (e:=(D+b)%Q) g h hS0 hS (sgC_lt g h) (Nat.mod_lt _ (by have:=g.pri.1;omega)) (by unfold sgS;rw [sig_sum (sgC_lt g h),Nat.mod_mod])]
 rfl
theorem chk_back {P Q G S D:Nat} (g:Gd P Q G) (h:Nat→Nat) (hS0:S≠0) (hS:S<Q) (hD:D<Q):chkB P Q G (G^S%P) h (sgC P Q G h S D) (sgS P Q G h S D)=true:=by
 have e:=chk_moved (D:=D) (b:=0) g h hS0 hS
 rw [Nat.add_zero,Nat.add_zero,Nat.mod_eq_of_lt (sgS_lt g h),Nat.mod_eq_of_lt hD] at e
 rw [e];simp
theorem n0_256:0<2^256:=by decide
section
variable {x y z:Operand} {dst:Option Tmp} {ty:TypeId} {pos:String} {after:Array Edge} {guard:Option (Nat × Bool)} {ρ:Operand→Value} {w:World} {g o:Nat}
theorem o_geqI {m n:Int} {b:Bool} (hb:decide (n≤m)=b) (hx:ρ x=.int .i64 m) (hy:ρ y=.int .i64 n):(execOp ρ ⟨dst,.binOp .geq 3 x y 3,ty,pos,after,guard⟩).run Tryd.prog w=.ok (.value (.bool b)) w:=by
 subst hb;simp only [execOp,hx,hy];simp [go_sem]
theorem o_lssI {m n:Int} {b:Bool} (hb:decide (m<n)=b) (hx:ρ x=.int .i64 m) (hy:ρ y=.int .i64 n):(execOp ρ ⟨dst,.binOp .lss 3 x y 3,ty,pos,after,guard⟩).run Tryd.prog w=.ok (.value (.bool b)) w:=by
 subst hb;simp only [execOp,hx,hy];simp [go_sem]
end
section
variable {x y z:Operand} {dst:Option Tmp} {ty:TypeId} {pos:String} {after:Array Edge} {guard:Option (Nat × Bool)} {ρ:Operand→Value} {w:World}
theorem o_eqBb {b:Bool} (hx:ρ x=.bool b) (hy:ρ y=.bool b):(execOp ρ ⟨dst,.binOp .eql 4 x y 4,ty,pos,after,guard⟩).run Tryd.prog w=.ok (.value (.bool true)) w:=by
 simp only [execOp,hx,hy];simp [go_sem]
end
theorem cmp_ge {X Y:Nat}:decide ((0:Int)≤cmpN X Y)=!decide (X<Y):=by
 unfold cmpN
 by_cases h:X<Y
 ·simp [h]
 ·by_cases e:X=Y <;> simp [h,e]
theorem cmp_lt {X Y:Nat}:decide (cmpN X Y<(0:Int))=decide (X<Y):=by
 unfold cmpN
 by_cases h:X<Y
 ·simp [h]
 ·by_cases e:X=Y <;> simp [h,e]
/-- numbers below Q,and not 0 -/
def nzB (Q:Nat) (xs:List Nat):Bool:=xs.all fun x=>decide (x<Q) && !decide (x=0)
set_option maxRecDepth 100000 in
set_option maxHeartbeats 800000 in
theorem fine13_any (P Q G H n cap:Nat) (pa:Option Addr) (xs:List Nat) (hP:P<2^256) (hQ:Q<2^256) (hG:G<2^256) (hH:H<2^256) (w0:World) (r:RN w0.heap.size w0 pa n cap xs):Calls Tryd.prog 7 #[grp P Q G H,.slice pa n cap] w0 fun e w'=>e=.returned (.bool (nzB Q xs && goodB P Q G H))∧Below w0.heap.size w0 w':=by
 refine sx_enter (args:=[grp P Q G H,.slice pa n cap]) Tryd.func7 rfl Tryd.ntmps7 (by rfl) fun a F HM=>?_
 repeat (first | refine ex_then ?_ | refine ex_block ?_ | refine wp_seq ?_ | refine wp_block ?_ | refine wp_skip ?_)
 refine wp_region_lit ?_
 refine lx_new F HM (wanted_none rfl _) rfl (by rfl) (o_boxG (F.ev rfl)) fun a w gg F HM=>?_
 refine lx_value (v:=.bool false) F (wanted_none rfl _) rfl (by rfl) (o_assign rfl) fun a F=>?_
 refine lx_nil ?_
 repeat (first | refine ex_then ?_ | refine ex_block ?_ | refine wp_seq ?_ | refine wp_block ?_ | refine wp_skip ?_)
 refine wp_region_lit ?_
 refine lx_value (v:=.int .i64 0) F (wanted_none rfl _) rfl (by rfl) (o_assign rfl) fun a F=>?_
 refine lx_nil ?_
 repeat (first | refine ex_then ?_ | refine ex_block ?_ | refine wp_seq ?_ | refine wp_block ?_ | refine wp_skip ?_)
 refine wp_loop (fun a w=>∃ i:Nat,i≤n∧Fr a 30 [(5,.int .i64 (i:Nat)),(1,.slice pa n cap),(2,.pointer (some ⟨gg,0,none⟩))] []∧Mem w0.heap.size w0 w [(gg,26,gcs P Q G H)]∧nzB Q (xs.take i)=true) (fun a _=>n-(intOf (a.tmps.getD 5 undef)).toNat) ⟨0,Nat.zero_le _,F.sub [5,1,2],HM,by simp [nzB]⟩ ?_
 clear F HM
 rintro aS wS ⟨i,hi,FS,HM,HE⟩
 have F:=FS
 by_cases hlt:i<n
 ·repeat (first | refine ex_then ?_ | refine ex_block ?_ | refine wp_seq ?_ | refine wp_block ?_ | refine wp_skip ?_)
  refine wp_region_lit ?_
  refine lx_value (v:=.int .i64 (i:Nat)) F (wanted_none rfl _) rfl (by rfl) (o_move (F.ev rfl)) fun a F=>?_
  refine lx_value (v:=.slice pa n cap) F (wanted_none rfl _) rfl (by rfl) (o_move (F.ev rfl)) fun a F=>?_
  refine lx_value (v:=.int .i64 (n:Nat)) F (wanted_none rfl _) rfl (by rfl) (o_len (F.ev rfl)) fun a F=>?_
  refine lx_value (v:=.bool true) F (wanted_none rfl _) rfl (by rfl) (o_bin (u:=.int .i64 (i:Nat)) (v:=.int .i64 (n:Nat)) (fun ρ hx hy=>by simp only [execOp,hx,hy];simp [go_sem];omega) (F.ev rfl) (F.ev rfl)) fun a F=>?_
  refine lx_nil ?_
  repeat (first | refine ex_then ?_ | refine ex_block ?_ | refine wp_seq ?_ | refine wp_block ?_ | refine wp_skip ?_)
  refine wp_cond_true (F.ev rfl) ?_
  obtain ⟨gl,ol,rfl,hil,hxb,hc⟩:=r.get hlt
  have htk:xs.take (i+1)=xs.take i++[xs[i]]:=List.take_succ_eq_append_getElem hil
  generalize xs[i]=x at *
  by_cases h1:x<Q
  ·by_cases h2:x=0
   ·have hge:decide ((0:Int)≤cmpN x Q)=false:=cmp_ge.trans (by simp [h1])
    have hz:decide (x=0)=true:=by simp [h2]
    repeat (first | refine ex_then ?_ | refine ex_block ?_ | refine wp_seq ?_ | refine wp_block ?_ | refine wp_skip ?_)
    refine sx_enterR (S:=fun w'=>Mem _ _ w' [(gg,26,gcs P Q G H)]) HM (fun _ h=>h) (by kernel_rfl) fun w HM HBW=>?_
    clear HBW
    try simp only [List.append_eq,List.cons_append,List.nil_append]
    refine sx_batch [⟨0,12,[],.val (.slice (some ⟨gl,ol,none⟩) n cap),true⟩,
   ⟨1,13,[0],.val (.int .i64 (i:Nat)),true⟩,
   ⟨2,14,[0,1],.val (.pointer (some ⟨gl,ol+i*4,none⟩)),true⟩,
   ⟨3,15,[2],.val (num x),true⟩,
   ⟨4,16,[3],.val (.pointer (some ⟨gg,4,none⟩)),true⟩,
   ⟨5,17,[4],.val (num Q),true⟩,
   ⟨6,18,[3,5],.val (.int .i64 (cmpN x Q)),false⟩,
   ⟨7,19,[6],.val (.bool false),true⟩,
   ⟨8,20,[7],.val (.bool false),true⟩,
   ⟨9,21,[8],.val (.slice (some ⟨gl,ol,none⟩) n cap),true⟩,
   ⟨10,22,[8,9],.val (.int .i64 (i:Nat)),true⟩,
   ⟨11,23,[8,9,10],.val (.pointer (some ⟨gl,ol+i*4,none⟩)),true⟩,
   ⟨12,24,[8,11],.val (num x),true⟩,
   ⟨13,25,[8,12],.val (num 0),true⟩,
   ⟨14,26,[8,12,13],.val (.bool true),true⟩,
   ⟨15,27,[8,14],.val (.bool true),true⟩] 0 _ F HM (fun _ h=>h.subl (by first | exact List.Sublist.refl _ | (repeat (first | exact List.Sublist.refl _ | refine List.Sublist.cons_cons _ ?_ | refine List.Sublist.cons _ ?_)))) (by kernel_rfl) (by rfl) ?_ ?_ ?_ ?_ ?_ ?_ ?_
    ·kernel_rfl
    ·exact of_decide_eq_true (by kernel_rfl)
    ·(repeat refine all_cons ⟨_,by rfl,by rfl⟩ ?_);exact all_nil
    ·kernel_rfl
    ·(repeat (refine all_cons ?_ ?_;rotate_left));exact all_nil
     ·exact coreS _ _ _ _ _ _ _ (by rfl) (by rfl) (wants_none) (fun ρ w kn hs=>o_move (kn _ _ (F.old (by rfl) rfl)))
     ·exact coreS _ _ _ _ _ _ _ (by rfl) (by rfl) (wants_none) (fun ρ w kn hs=>o_move (kn _ _ (F.old (by rfl) rfl)))
     ·exact coreS _ _ _ _ _ _ _ (by rfl) (by rfl) (wants_none) (fun ρ w kn hs=>o_idxN hlt (kn _ _ (kc 0 12)) (kn _ _ (kc 1 13)))
     ·exact coreS _ _ _ _ _ _ _ (by rfl) (by rfl) (wants_none) (fun ρ w kn hs=>o_loadC (kn _ _ (kc 2 14)) (hc _ hs.bel))
     ·exact coreS _ _ _ _ _ _ _ (by rfl) (by rfl) (wants_none) (fun ρ w kn hs=>o_fieldG1 (kn _ _ (F.old (by rfl) rfl)))
     ·exact coreS _ _ _ _ _ _ _ (by rfl) (by rfl) (wants_none) (fun ρ w kn hs=>o_loadG1 (kn _ _ (kc 4 16)) (hs.get 0 rfl))
     ·exact core_pureAs _ (by rfl)
     ·exact coreS _ _ _ _ _ _ _ (by rfl) (by rfl) (wants_none) (fun ρ w kn hs=>o_geqI hge (kn _ _ (kc 6 18)) (kn _ _ (known_const _)))
     ·exact coreS _ _ _ _ _ _ _ (by rfl) (by rfl) (wants_none) (fun ρ w kn hs=>o_move (kn _ _ (kc 7 19)))
     ·exact coreS _ _ _ _ _ _ _ (by rfl) (by rfl) (wc 8 20 8 (kc 8 20)) (fun ρ w kn hs=>o_move (kn _ _ (F.old (by rfl) rfl)))
     ·exact coreS _ _ _ _ _ _ _ (by rfl) (by rfl) (wc 8 20 8 (kc 8 20)) (fun ρ w kn hs=>o_move (kn _ _ (F.old (by rfl) rfl)))
     ·exact coreS _ _ _ _ _ _ _ (by rfl) (by rfl) (wc 8 20 8 (kc 8 20)) (fun ρ w kn hs=>o_idxN hlt (kn _ _ (kc 9 21)) (kn _ _ (kc 10 22)))
     ·exact coreS _ _ _ _ _ _ _ (by rfl) (by rfl) (wc 8 20 8 (kc 8 20)) (fun ρ w kn hs=>o_loadC (kn _ _ (kc 11 23)) (hc _ hs.bel))
     ·exact coreS _ _ _ _ _ _ _ (by rfl) (by rfl) (wc 8 20 8 (kc 8 20)) (fun ρ w kn hs=>o_build0)
     ·exact coreS _ _ _ _ _ _ _ (by rfl) (by rfl) (wc 8 20 8 (kc 8 20)) (fun ρ w kn hs=>o_eqlN hxb n0_256 hz (kn _ _ (kc 12 24)) (kn _ _ (kc 13 25)))
     ·exact coreS _ _ _ _ _ _ _ (by rfl) (by rfl) (wants_none) (fun ρ w kn hs=>o_pick (b:=false) (r:=.bool true) (kn _ _ (kc 8 20)) (kn _ _ (known_const _)) (kn _ _ (kc 14 26)) rfl)
    ·(repeat (refine all_cons ?_ ?_;rotate_left));exact all_nil
     ·exact sA
     ·exact sA
     ·exact sA
     ·exact sA
     ·exact sA
     ·exact sA
     ·exact fun _=>coreG_call _ 12 _ _ [.tmp 15,.tmp 17] _ _ _ _ _ _ _ (by rfl) Tryd.func12 (by kernel_rfl) (by rfl) (by rfl) (wants_none) (.cons (kc 3 15) (.cons (kc 5 17) .nil)) ((fun w=>cmp_any x Q hxb hQ w))
     ·exact sA
     ·exact sA
     ·exact sA
     ·exact sA
     ·exact sA
     ·exact sA
     ·exact sA
     ·exact sA
     ·exact sA
    intro gs rs a w hgs hrs F HM HBW HR HO HT
    obtain rfl:=nl0 rs hrs
    obtain rfl:=nl0 gs hgs
    clear hrs hgs HR HBW HO
    clear HT
    refine sx_done (by kernel_rfl) ?_ _
    repeat (first | refine ex_then ?_ | refine ex_block ?_ | refine wp_seq ?_ | refine wp_block ?_ | refine wp_skip ?_)
    refine wp_cond_true (F.ev rfl) ?_
    repeat (first | refine ex_then ?_ | refine ex_block ?_ | refine wp_seq ?_ | refine wp_block ?_ | refine wp_skip ?_)
    refine wp_region_lit ?_
    refine lx_value (v:=.bool false) F (wanted_none rfl _) rfl (by rfl) (o_assign rfl) fun a F=>?_
    refine lx_nil ?_
    have hV:(nzB Q xs && goodB P Q G H)=false:=by rw [← List.take_append_drop (i+1) xs,htk];unfold nzB;rw [List.all_append,List.all_append];simp [h2]
    rw [hV]
    repeat (first | refine ex_then ?_ | refine ex_block ?_ | refine wp_seq ?_ | refine wp_block ?_ | refine wp_skip ?_)
    refine wp_ret ?_
    repeat (first | refine ex_thenR ?_ | refine ex_blockR ?_)
    exact sx_ret F HM (res_tmp F rfl (s:=4) rfl)
   ·have hge:decide ((0:Int)≤cmpN x Q)=false:=cmp_ge.trans (by simp [h1])
    have hz:decide (x=0)=false:=by simp [h2]
    repeat (first | refine ex_then ?_ | refine ex_block ?_ | refine wp_seq ?_ | refine wp_block ?_ | refine wp_skip ?_)
    refine sx_enterR (S:=fun w'=>Mem _ _ w' [(gg,26,gcs P Q G H)]) HM (fun _ h=>h) (by kernel_rfl) fun w HM HBW=>?_
    clear HBW
    try simp only [List.append_eq,List.cons_append,List.nil_append]
    refine sx_batch [⟨0,12,[],.val (.slice (some ⟨gl,ol,none⟩) n cap),true⟩,
   ⟨1,13,[0],.val (.int .i64 (i:Nat)),true⟩,
   ⟨2,14,[0,1],.val (.pointer (some ⟨gl,ol+i*4,none⟩)),true⟩,
   ⟨3,15,[2],.val (num x),true⟩,
   ⟨4,16,[3],.val (.pointer (some ⟨gg,4,none⟩)),true⟩,
   ⟨5,17,[4],.val (num Q),true⟩,
   ⟨6,18,[3,5],.val (.int .i64 (cmpN x Q)),false⟩,
   ⟨7,19,[6],.val (.bool false),true⟩,
   ⟨8,20,[7],.val (.bool false),true⟩,
   ⟨9,21,[8],.val (.slice (some ⟨gl,ol,none⟩) n cap),true⟩,
   ⟨10,22,[8,9],.val (.int .i64 (i:Nat)),true⟩,
   ⟨11,23,[8,9,10],.val (.pointer (some ⟨gl,ol+i*4,none⟩)),true⟩,
   ⟨12,24,[8,11],.val (num x),true⟩,
   ⟨13,25,[8,12],.val (num 0),true⟩,
   ⟨14,26,[8,12,13],.val (.bool false),true⟩,
   ⟨15,27,[8,14],.val (.bool false),true⟩] 0 _ F HM (fun _ h=>h.subl (by first | exact List.Sublist.refl _ | (repeat (first | exact List.Sublist.refl _ | refine List.Sublist.cons_cons _ ?_ | refine List.Sublist.cons _ ?_)))) (by kernel_rfl) (by rfl) ?_ ?_ ?_ ?_ ?_ ?_ ?_
    ·kernel_rfl
    ·exact of_decide_eq_true (by kernel_rfl)
    ·(repeat refine all_cons ⟨_,by rfl,by rfl⟩ ?_);exact all_nil
    ·kernel_rfl
    ·(repeat (refine all_cons ?_ ?_;rotate_left));exact all_nil
     ·exact coreS _ _ _ _ _ _ _ (by rfl) (by rfl) (wants_none) (fun ρ w kn hs=>o_move (kn _ _ (F.old (by rfl) rfl)))
     ·exact coreS _ _ _ _ _ _ _ (by rfl) (by rfl) (wants_none) (fun ρ w kn hs=>o_move (kn _ _ (F.old (by rfl) rfl)))
     ·exact coreS _ _ _ _ _ _ _ (by rfl) (by rfl) (wants_none) (fun ρ w kn hs=>o_idxN hlt (kn _ _ (kc 0 12)) (kn _ _ (kc 1 13)))
     ·exact coreS _ _ _ _ _ _ _ (by rfl) (by rfl) (wants_none) (fun ρ w kn hs=>o_loadC (kn _ _ (kc 2 14)) (hc _ hs.bel))
     ·exact coreS _ _ _ _ _ _ _ (by rfl) (by rfl) (wants_none) (fun ρ w kn hs=>o_fieldG1 (kn _ _ (F.old (by rfl) rfl)))
     ·exact coreS _ _ _ _ _ _ _ (by rfl) (by rfl) (wants_none) (fun ρ w kn hs=>o_loadG1 (kn _ _ (kc 4 16)) (hs.get 0 rfl))
     ·exact core_pureAs _ (by rfl)
     ·exact coreS _ _ _ _ _ _ _ (by rfl) (by rfl) (wants_none) (fun ρ w kn hs=>o_geqI hge (kn _ _ (kc 6 18)) (kn _ _ (known_const _)))
     ·exact coreS _ _ _ _ _ _ _ (by rfl) (by rfl) (wants_none) (fun ρ w kn hs=>o_move (kn _ _ (kc 7 19)))
     ·exact coreS _ _ _ _ _ _ _ (by rfl) (by rfl) (wc 8 20 8 (kc 8 20)) (fun ρ w kn hs=>o_move (kn _ _ (F.old (by rfl) rfl)))
     ·exact coreS _ _ _ _ _ _ _ (by rfl) (by rfl) (wc 8 20 8 (kc 8 20)) (fun ρ w kn hs=>o_move (kn _ _ (F.old (by rfl) rfl)))
     ·exact coreS _ _ _ _ _ _ _ (by rfl) (by rfl) (wc 8 20 8 (kc 8 20)) (fun ρ w kn hs=>o_idxN hlt (kn _ _ (kc 9 21)) (kn _ _ (kc 10 22)))
     ·exact coreS _ _ _ _ _ _ _ (by rfl) (by rfl) (wc 8 20 8 (kc 8 20)) (fun ρ w kn hs=>o_loadC (kn _ _ (kc 11 23)) (hc _ hs.bel))
     ·exact coreS _ _ _ _ _ _ _ (by rfl) (by rfl) (wc 8 20 8 (kc 8 20)) (fun ρ w kn hs=>o_build0)
     ·exact coreS _ _ _ _ _ _ _ (by rfl) (by rfl) (wc 8 20 8 (kc 8 20)) (fun ρ w kn hs=>o_eqlN hxb n0_256 hz (kn _ _ (kc 12 24)) (kn _ _ (kc 13 25)))
     ·exact coreS _ _ _ _ _ _ _ (by rfl) (by rfl) (wants_none) (fun ρ w kn hs=>o_pick (b:=false) (r:=.bool false) (kn _ _ (kc 8 20)) (kn _ _ (known_const _)) (kn _ _ (kc 14 26)) rfl)
    ·(repeat (refine all_cons ?_ ?_;rotate_left));exact all_nil
     ·exact sA
     ·exact sA
     ·exact sA
     ·exact sA
     ·exact sA
     ·exact sA
     ·exact fun _=>coreG_call _ 12 _ _ [.tmp 15,.tmp 17] _ _ _ _ _ _ _ (by rfl) Tryd.func12 (by kernel_rfl) (by rfl) (by rfl) (wants_none) (.cons (kc 3 15) (.cons (kc 5 17) .nil)) ((fun w=>cmp_any x Q hxb hQ w))
     ·exact sA
     ·exact sA
     ·exact sA
     ·exact sA
     ·exact sA
     ·exact sA
     ·exact sA
     ·exact sA
     ·exact sA
    intro gs rs a w hgs hrs F HM HBW HR HO HT
    obtain rfl:=nl0 rs hrs
    obtain rfl:=nl0 gs hgs
    clear hrs hgs HR HBW HO
    clear HT
    refine sx_done (by kernel_rfl) ?_ _
    repeat (first | refine ex_then ?_ | refine ex_block ?_ | refine wp_seq ?_ | refine wp_block ?_ | refine wp_skip ?_)
    refine wp_cond_false (F.ev rfl) ?_
    repeat (first | refine ex_then ?_ | refine ex_block ?_ | refine wp_seq ?_ | refine wp_block ?_ | refine wp_skip ?_)
    refine wp_region_lit ?_
    refine lx_value (v:=.int .i64 (i:Nat)) F (wanted_none rfl _) rfl (by rfl) (o_move (F.ev rfl)) fun a F=>?_
    refine lx_value (v:=.int .i64 ((i+1:Nat):Int)) F (wanted_none rfl _) rfl (by rfl) (o_bin (u:=.int .i64 (i:Nat)) (v:=.int .i64 1) (fun ρ hx hy=>by simp only [execOp,hx,hy];simp [go_sem,r.room hlt]) (F.ev rfl) rfl) fun a F=>?_
    refine lx_value (v:=.int .i64 ((i+1:Nat):Int)) F (wanted_none rfl _) rfl (by rfl) (o_assign (F.ev rfl)) fun a F=>?_
    refine lx_nil ?_
    refine ex_then ?_
    refine ⟨⟨i+1,by omega,F.sub [5,1,2],HM,?_⟩,?_⟩
    ·rw [htk];unfold nzB at HE ⊢;rw [List.all_append,HE];simp [h1,h2]
    ·show n-(intOf (a.tmps.getD 5 undef)).toNat<n-(intOf (aS.tmps.getD 5 undef)).toNat
     rw [F.get 5 _ rfl,FS.get 5 _ rfl]
     show n-((i+1:Nat):Int).toNat<n-((i:Nat):Int).toNat
     omega
  ·have hge:decide ((0:Int)≤cmpN x Q)=true:=cmp_ge.trans (by simp [h1])
   repeat (first | refine ex_then ?_ | refine ex_block ?_ | refine wp_seq ?_ | refine wp_block ?_ | refine wp_skip ?_)
   refine sx_enterR (S:=fun w'=>Mem _ _ w' [(gg,26,gcs P Q G H)]) HM (fun _ h=>h) (by kernel_rfl) fun w HM HBW=>?_
   clear HBW
   try simp only [List.append_eq,List.cons_append,List.nil_append]
   refine sx_batch [⟨0,12,[],.val (.slice (some ⟨gl,ol,none⟩) n cap),true⟩,
   ⟨1,13,[0],.val (.int .i64 (i:Nat)),true⟩,
   ⟨2,14,[0,1],.val (.pointer (some ⟨gl,ol+i*4,none⟩)),true⟩,
   ⟨3,15,[2],.val (num x),true⟩,
   ⟨4,16,[3],.val (.pointer (some ⟨gg,4,none⟩)),true⟩,
   ⟨5,17,[4],.val (num Q),true⟩,
   ⟨6,18,[3,5],.val (.int .i64 (cmpN x Q)),false⟩,
   ⟨7,19,[6],.val (.bool true),true⟩,
   ⟨8,20,[7],.val (.bool true),true⟩,
   ⟨9,21,[8],.val undef,true⟩,
   ⟨10,22,[8,9],.val undef,true⟩,
   ⟨11,23,[8,9,10],.val undef,true⟩,
   ⟨12,24,[8,11],.val undef,true⟩,
   ⟨13,25,[8,12],.val undef,true⟩,
   ⟨14,26,[8,12,13],.val undef,true⟩,
   ⟨15,27,[8,14],.val (.bool true),true⟩] 0 _ F HM (fun _ h=>h.subl (by first | exact List.Sublist.refl _ | (repeat (first | exact List.Sublist.refl _ | refine List.Sublist.cons_cons _ ?_ | refine List.Sublist.cons _ ?_)))) (by kernel_rfl) (by rfl) ?_ ?_ ?_ ?_ ?_ ?_ ?_
   ·kernel_rfl
   ·exact of_decide_eq_true (by kernel_rfl)
   ·(repeat refine all_cons ⟨_,by rfl,by rfl⟩ ?_);exact all_nil
   ·kernel_rfl
   ·(repeat (refine all_cons ?_ ?_;rotate_left));exact all_nil
    ·exact coreS _ _ _ _ _ _ _ (by rfl) (by rfl) (wants_none) (fun ρ w kn hs=>o_move (kn _ _ (F.old (by rfl) rfl)))
    ·exact coreS _ _ _ _ _ _ _ (by rfl) (by rfl) (wants_none) (fun ρ w kn hs=>o_move (kn _ _ (F.old (by rfl) rfl)))
    ·exact coreS _ _ _ _ _ _ _ (by rfl) (by rfl) (wants_none) (fun ρ w kn hs=>o_idxN hlt (kn _ _ (kc 0 12)) (kn _ _ (kc 1 13)))
    ·exact coreS _ _ _ _ _ _ _ (by rfl) (by rfl) (wants_none) (fun ρ w kn hs=>o_loadC (kn _ _ (kc 2 14)) (hc _ hs.bel))
    ·exact coreS _ _ _ _ _ _ _ (by rfl) (by rfl) (wants_none) (fun ρ w kn hs=>o_fieldG1 (kn _ _ (F.old (by rfl) rfl)))
    ·exact coreS _ _ _ _ _ _ _ (by rfl) (by rfl) (wants_none) (fun ρ w kn hs=>o_loadG1 (kn _ _ (kc 4 16)) (hs.get 0 rfl))
    ·exact core_pureAs _ (by rfl)
    ·exact coreS _ _ _ _ _ _ _ (by rfl) (by rfl) (wants_none) (fun ρ w kn hs=>o_geqI hge (kn _ _ (kc 6 18)) (kn _ _ (known_const _)))
    ·exact coreS _ _ _ _ _ _ _ (by rfl) (by rfl) (wants_none) (fun ρ w kn hs=>o_move (kn _ _ (kc 7 19)))
    ·exact coreG_skip _ _ _ _ _ _ (by rfl) (by rfl) (wc 8 20 8 (kc 8 20))
    ·exact coreG_skip _ _ _ _ _ _ (by rfl) (by rfl) (wc 8 20 8 (kc 8 20))
    ·exact coreG_skip _ _ _ _ _ _ (by rfl) (by rfl) (wc 8 20 8 (kc 8 20))
    ·exact coreG_skip _ _ _ _ _ _ (by rfl) (by rfl) (wc 8 20 8 (kc 8 20))
    ·exact coreG_skip _ _ _ _ _ _ (by rfl) (by rfl) (wc 8 20 8 (kc 8 20))
    ·exact coreG_skip _ _ _ _ _ _ (by rfl) (by rfl) (wc 8 20 8 (kc 8 20))
    ·exact coreS _ _ _ _ _ _ _ (by rfl) (by rfl) (wants_none) (fun ρ w kn hs=>o_pick (b:=true) (r:=.bool true) (kn _ _ (kc 8 20)) (kn _ _ (known_const _)) (kn _ _ (kc 14 26)) rfl)
   ·(repeat (refine all_cons ?_ ?_;rotate_left));exact all_nil
    ·exact sA
    ·exact sA
    ·exact sA
    ·exact sA
    ·exact sA
    ·exact sA
    ·exact fun _=>coreG_call _ 12 _ _ [.tmp 15,.tmp 17] _ _ _ _ _ _ _ (by rfl) Tryd.func12 (by kernel_rfl) (by rfl) (by rfl) (wants_none) (.cons (kc 3 15) (.cons (kc 5 17) .nil)) ((fun w=>cmp_any x Q hxb hQ w))
    ·exact sA
    ·exact sA
    ·exact sA
    ·exact sA
    ·exact sA
    ·exact sA
    ·exact sA
    ·exact sA
    ·exact sA
   intro gs rs a w hgs hrs F HM HBW HR HO HT
   obtain rfl:=nl0 rs hrs
   obtain rfl:=nl0 gs hgs
   clear hrs hgs HR HBW HO
   clear HT
   refine sx_done (by kernel_rfl) ?_ _
   repeat (first | refine ex_then ?_ | refine ex_block ?_ | refine wp_seq ?_ | refine wp_block ?_ | refine wp_skip ?_)
   refine wp_cond_true (F.ev rfl) ?_
   repeat (first | refine ex_then ?_ | refine ex_block ?_ | refine wp_seq ?_ | refine wp_block ?_ | refine wp_skip ?_)
   refine wp_region_lit ?_
   refine lx_value (v:=.bool false) F (wanted_none rfl _) rfl (by rfl) (o_assign rfl) fun a F=>?_
   refine lx_nil ?_
   have hV:(nzB Q xs && goodB P Q G H)=false:=by rw [← List.take_append_drop (i+1) xs,htk];unfold nzB;rw [List.all_append,List.all_append];simp [h1]
   rw [hV]
   repeat (first | refine ex_then ?_ | refine ex_block ?_ | refine wp_seq ?_ | refine wp_block ?_ | refine wp_skip ?_)
   refine wp_ret ?_
   repeat (first | refine ex_thenR ?_ | refine ex_blockR ?_)
   exact sx_ret F HM (res_tmp F rfl (s:=4) rfl)
 ·repeat (first | refine ex_then ?_ | refine ex_block ?_ | refine wp_seq ?_ | refine wp_block ?_ | refine wp_skip ?_)
  refine wp_region_lit ?_
  refine lx_value (v:=.int .i64 (i:Nat)) F (wanted_none rfl _) rfl (by rfl) (o_move (F.ev rfl)) fun a F=>?_
  refine lx_value (v:=.slice pa n cap) F (wanted_none rfl _) rfl (by rfl) (o_move (F.ev rfl)) fun a F=>?_
  refine lx_value (v:=.int .i64 (n:Nat)) F (wanted_none rfl _) rfl (by rfl) (o_len (F.ev rfl)) fun a F=>?_
  refine lx_value (v:=.bool false) F (wanted_none rfl _) rfl (by rfl) (o_bin (u:=.int .i64 (i:Nat)) (v:=.int .i64 (n:Nat)) (fun ρ hx hy=>by simp only [execOp,hx,hy];simp [go_sem];omega) (F.ev rfl) (F.ev rfl)) fun a F=>?_
  refine lx_nil ?_
  repeat (first | refine ex_then ?_ | refine ex_block ?_ | refine wp_seq ?_ | refine wp_block ?_ | refine wp_skip ?_)
  refine wp_cond_false (F.ev rfl) ?_
  repeat (first | refine ex_then ?_ | refine ex_block ?_ | refine wp_seq ?_ | refine wp_block ?_ | refine wp_skip ?_)
  refine wp_exit ?_
  repeat (first | refine ex_thenE ?_ | refine ex_blockE ?_)
  have hV:nzB Q xs=true:=by rw [← HE,List.take_of_length_le (by have:=r.1;omega)]
  rw [hV,Bool.true_and]
  repeat (first | refine ex_then ?_ | refine ex_block ?_ | refine wp_seq ?_ | refine wp_block ?_ | refine wp_skip ?_)
  refine wp_region_lit ?_
  refine lx_value (v:=grp P Q G H) F (wanted_none rfl _) rfl (by rfl) (o_loadG (F.ev rfl) (HM.get 0 rfl)) fun a F=>?_
  refine lx_call F (wanted_none rfl _) rfl (by rfl) (run_callF Tryd.func18 (by kernel_rfl) (by rfl) (.cons (F.ev rfl) .nil) _) ((fun w=>good_is P Q G H rfl hP hQ hG hH w) _) fun a w z F=>?_
  replace HM:=HM.on z
  clear z
  refine lx_value (v:=.bool ((goodB P Q G H))) F (wanted_none rfl _) rfl (by rfl) (o_assign (F.ev rfl)) fun a F=>?_
  refine lx_nil ?_
  repeat (first | refine ex_then ?_ | refine ex_block ?_ | refine wp_seq ?_ | refine wp_block ?_ | refine wp_skip ?_)
  refine wp_ret ?_
  repeat (first | refine ex_thenR ?_ | refine ex_blockR ?_)
  exact sx_ret F HM (res_tmp F rfl (s:=4) rfl)

theorem fine13_is {b:Bool} (P Q G H n cap:Nat) (pa:Option Addr) (xs:List Nat) (hP:P<2^256) (hQ:Q<2^256) (hG:G<2^256) (hH:H<2^256) (w0:World) (hb:(nzB Q xs && goodB P Q G H)=b) (r:RN w0.heap.size w0 pa n cap xs):Calls Tryd.prog 7 #[grp P Q G H,.slice pa n cap] w0 fun e w'=>e=.returned (.bool b)∧Below w0.heap.size w0 w':=by
 subst hb;exact fine13_any P Q G H n cap pa xs hP hQ hG hH w0 r
end Go.Proofs.YtlphnfajhpkleaaDoor
