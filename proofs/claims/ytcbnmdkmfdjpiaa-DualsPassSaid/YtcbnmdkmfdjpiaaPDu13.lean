import Derived.Deep.Cut
import Derived.Test.YtcbnmdkmfdjpiaaPDu11
import Derived.Test.YtcbnmdkmfdjpiaaPShort
namespace Go.Proofs.Ytcbnmdkmfdjpiaa
set_option maxRecDepth 100000
open Go.RowKit
set_option linter.unusedSimpArgs false
set_option linter.unusedVariables false
attribute [local go_sem ↓] Go.wp_at_zero Go.wp_at_succ

theorem fine_is {b:Bool} (P Q G H m capp:Nat) (pp:Option Addr) (ps:List Nat) (hP:P<2^256) (hQ:Q<2^256) (hG:G<2^256) (hH:H<2^256) (w0:World) (rp:RN w0.heap.size w0 pp m capp ps) (h:fineB P Q G H ps=b):Calls Try.prog 7 #[grp P Q G H,.slice pp m capp] w0 fun e w'=>e=.returned (.bool b)∧Below w0.heap.size w0 w':=by
 subst h;exact fine_any P Q G H m capp pp ps hP hQ hG hH w0 rp
theorem fine_gd {P Q G H:Nat} {ps:List Nat} (hP:P<2^256) (hQ:Q<2^256) (hG:G<2^256) (hH:H<2^256) (h:fineB P Q G H ps=true):Gd P Q G∧7<Q∧Q<2147483648∧wd Q 0=Q∧∀ c∈ps,c<Q:=by
 unfold fineB at h
 simp only [Bool.and_eq_true,decide_eq_true_iff] at h
 obtain ⟨g,e,q⟩:=gd_of hP hQ hG h.1.1
 rw [e] at h
 exact ⟨g,h.1.2,q,e,(atB_iff.1 h.2).2.2⟩
def ptsL (Q k:Nat):List Nat:=(List.range k).map fun i=>Ki Q ((i+1:Nat):Int)
theorem o_conv8 {x:Operand} {dst:Option Tmp} {ty:TypeId} {pos:String} {after:Array Edge} {guard:Option (Nat × Bool)} {ρ:Operand→Value} {w:World} {c:Nat} (hc:c<256) (hx:ρ x=.int .u8 (c:Nat)):(execOp ρ ⟨dst,.convert 5 3 x,ty,pos,after,guard⟩).run Try.prog w=.ok (.value (.int .i64 (c:Nat))) w:=by
 have h:IntKind.i64.wrap (c:Int)=(c:Nat):=by rw [IntKind.wrap_i64];omega
 simp [execOp,hx,go_sem,h]
theorem o_remI {x y:Operand} {dst:Option Tmp} {ty:TypeId} {pos:String} {after:Array Edge} {guard:Option (Nat × Bool)} {ρ:Operand→Value} {w:World} {c n:Nat} (hc:c<4611686018427387904) (h0:0<n) (hn:n<4611686018427387904) (hx:ρ x=.int .i64 (c:Nat)) (hy:ρ y=.int .i64 (n:Nat)):(execOp ρ ⟨dst,.binOp .rem 3 x y 3,ty,pos,after,guard⟩).run Try.prog w=.ok (.value (.int .i64 ((c%n:Nat):Int))) w:=by
 have h1:Int.tmod (c:Int) (n:Int)=((c%n:Nat):Int):=by rw [Int.tmod_eq_emod_of_nonneg (by omega),Int.natCast_emod]
 have hlt:=Nat.mod_lt c h0
 have h2:IntKind.i64.wrap ((c%n:Nat):Int)=((c%n:Nat):Int):=by rw [IntKind.wrap_i64];omega
 have h3:¬ n=0:=by omega
 simp only [execOp,hx,hy]
 simp only [go_sem]
 simp [go_sem,h1,h2,h3]
 try exact h2
theorem RN.take {n0:Nat} {w:World} {a:Option Addr} {n cap k:Nat} {xs:List Nat} (h:RN n0 w a n cap xs) (hk:k≤n):RN n0 w a k cap (xs.take k):=by
 obtain ⟨h0,h1,h2,h3,h4⟩:=h
 refine ⟨by rw [List.length_take];omega,by rw [List.length_take];omega,h2,fun x hx=>h3 x (List.mem_of_mem_take hx),?_⟩
 rcases h4 with h4 | ⟨g,o,ha,hl,hc⟩
 ·exact .inl (by rw [h4,List.take_nil])
 ·refine .inr ⟨g,o,ha,hl,fun i hi k hk=>?_⟩
  rw [List.length_take] at hi
  rw [List.getElem_take]
  exact hc i (by omega) k hk
theorem Jce {Q:Nat} (hq:1<Q) (ps:List Nat) (i:Nat):Cg Q ((Wu Q ps i:Nat):Int) (evZ (zs ps) ((i+1:Nat):Int)):=(Xd hq _).trans (Jfo (Xd hq _) _)
theorem Jda {Q:Nat} (hq:1<Q) (ps:List Nat) (i:Nat):Wu Q ps i<Q:=Xc hq _
theorem pad_ev (ps:List Nat) (m:Nat) (y:Int):evZ (zs (ps++List.replicate m 0)) y=evZ (zs ps) y:=by
 have e1:zs (ps++List.replicate m 0)=zs ps++zs (List.replicate m 0):=by simp [zs]
 rw [e1,Jcp,Jak (zs (List.replicate m 0)) _ fun c hc=>by obtain ⟨d,hd,rfl⟩:=List.mem_map.1 hc;rw [List.eq_of_mem_replicate hd];rfl]
 omega
theorem Jcc {ls:List Nat} {i v:Nat} (h:ls[i]? = some v):ls.getD i 0=v:=by rw [List.getD_eq_getElem?_getD,h];rfl
theorem pol_iff {Q n k:Nat} (hq:Pr.Pri Q) (hn:n<Q) (hk:k≤n) (ls ps:List Nat) (hl:ls.length=n) (hls:∀ c∈ls,c<Q) (hpl:ps.length=k) (hp:∀ c∈ps,c<Q) (hv:∀ i,i<k→Cg Q (evZ (zs ps) ((i+1:Nat):Int)) ((ls.getD i 0:Nat):Int)) :
  (∀ i,k≤i→i<n→(comb Q n (fun x=>ls.getD x 0) n)[i]? = some 0) ↔ (List.range n).map (Wu Q ps)=ls:=by
 have hq1:1<Q:=hq.1
 constructor
 ·intro hz
  have e:(comb Q n (fun x=>ls.getD x 0) n).take k=ps:=by
   refine Jgc (xs:=pls k) (by rw [List.length_take,Vj,hpl];omega) (by rw [List.length_take,Vj];simp [pls];omega) (fun c hc=>Jbq hq1 n _ n c (List.mem_of_mem_take hc)) hp (Jdg hq (by omega)) fun x hx=>?_
   obtain ⟨j,hj,rfl⟩:=List.mem_map.1 hx
   have hj:=List.mem_range.1 hj
   rw [Jal (fun i h1 h2=>hz i h1 (by rw [Vj] at h2;exact h2))]
   exact (Uw hq hn _ j (by omega)).trans (hv j hj).symm
  refine List.ext_getElem? fun i=>?_
  by_cases hi:i<n
  ·rw [List.getElem?_map,List.getElem?_range hi]
   have hg:ls[i]? = some (ls.getD i 0):=by rw [List.getD_eq_getElem?_getD,List.getElem?_eq_getElem (by omega)];rfl
   rw [hg]
   refine congrArg some (Cg.eq (Jda hq1 ps i) (hls _ (List.mem_of_getElem? hg)) ((Jce hq1 ps i).trans ?_))
   rw [← e,Jal (fun i h1 h2=>hz i h1 (by rw [Vj] at h2;exact h2))]
   exact Uw hq hn _ i hi
  ·rw [List.getElem?_eq_none (by simp;omega),List.getElem?_eq_none (by omega)]
 ·intro he
  have e:=comb_uniq hq hn (fun x=>ls.getD x 0) (ps++List.replicate (n-k) 0) (by simp [hpl];omega) (fun c hc=>by
   rcases List.mem_append.1 hc with hc | hc
   ·exact hp c hc
   ·rw [List.eq_of_mem_replicate hc];omega) fun j hj=>by
    rw [pad_ev]
    refine (Jce hq1 ps j).symm.trans (Cg.of_eq ?_)
    have:ls[j]? = some (Wu Q ps j):=by rw [← he,List.getElem?_map,List.getElem?_range hj];rfl
    rw [Jcc this]
  intro i h1 h2
  rw [← e,List.getElem?_append_right (by omega),hpl,List.getElem?_replicate,if_pos (by omega)]
theorem o_eqlB {x y:Operand} {dst:Option Tmp} {ty:TypeId} {pos:String} {after:Array Edge} {guard:Option (Nat × Bool)} {ρ:Operand→Value} {w:World} {a b:Bool} (h:a=b) (hx:ρ x=.bool a) (hy:ρ y=.bool b):(execOp ρ ⟨dst,.binOp .eql 4 x y 4,ty,pos,after,guard⟩).run Try.prog w=.ok (.value (.bool true)) w:=by
 subst h;simp only [execOp,hx,hy];cases a <;> simp [go_sem]
end Go.Proofs.Ytcbnmdkmfdjpiaa
