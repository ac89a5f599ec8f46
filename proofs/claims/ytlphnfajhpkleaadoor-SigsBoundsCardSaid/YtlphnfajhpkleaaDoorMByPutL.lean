/-
 What memory holds,in words of this proof's own: a slice that reads as a list,bytes as a list of numbers,the bytes of a number. Nothing here speaks of the program.
-/
import Derived.WalkKit
import Derived.Below
import Derived.OwnWalk
import Derived.Laws.OwnMore
import Derived.Maps.AppendAt
import Derived.Laws.MakeOwn
import Derived.Deep.Draws
import Derived.Lib.Hide
import Derived.Test.YtlphnfajhpkleaaDoorProg
import Derived.Laws.BitsAllLaws
namespace Go.Proofs.YtlphnfajhpkleaaDoor.By
set_option maxRecDepth 100000
open Go.RowKit

/-- the slice at A,of n elements of one cell each,reads as xs -/
def Rd (w:World) (A:Option Addr) (n:Nat) (xs:List Value):Prop:=
 xs.length=n∧(0<n→∃ b off,A=some ⟨b,off,none⟩∧b<w.heap.size∧∀ j u,xs[j]? = some u→w.cell? ⟨b,off+j,none⟩=some u)

def bs (l:List Nat):List Value:=l.map fun x:Nat=>.int .u8 (x:Int)
def ws (l:List Nat):List Value:=l.map fun x:Nat=>.int .u64 (x:Int)
def is (l:List Int):List Value:=l.map fun x=>.int .i64 x

theorem bs_len (l:List Nat):(bs l).length=l.length:=by simp [bs]
theorem bs_at (l:List Nat) (k:Nat) (h:k<l.length):(bs l)[k]? = some (.int .u8 (l.getD k 0:Nat)):=by simp [bs,h]
theorem ws_at (l:List Nat) (k:Nat) (h:k<l.length):(ws l)[k]? = some (.int .u64 (l.getD k 0:Nat)):=by simp [ws,h]
theorem bs_append (l m:List Nat):bs (l++m)=bs l++bs m:=by simp [bs]
theorem bs_one (l:List Nat):∀ u∈bs l,u.oneCell'=true:=by
 intro u hu;obtain ⟨x,_,rfl⟩:=List.mem_map.1 hu;rfl
section
variable {w w':World} {A:Option Addr} {n:Nat} {xs:List Value}

theorem Rd.nil (w:World) (A:Option Addr):Rd w A 0 []:=⟨rfl,fun h=>absurd h (Nat.lt_irrefl 0)⟩
theorem Rd.spot (h:Rd w A n xs) {k:Nat} (hk:k<n) :
  ∃ b off,A=some ⟨b,off,none⟩∧b<w.heap.size∧∀ j u,xs[j]? = some u→w.cell? ⟨b,off+j,none⟩=some u:=h.2 (by omega)
theorem Rd.kept (h:Rd w A n xs) (hs:w.heap.size≤w'.heap.size) (hk:∀ p:Addr,p.block<w.heap.size→w'.cell? p=w.cell? p):Rd w' A n xs:=
 ⟨h.1,fun hn=>by
  obtain ⟨b,off,e,hb,hc⟩:=h.2 hn
  exact ⟨b,off,e,by omega,fun j u hu=>(hk _ hb).trans (hc j u hu)⟩⟩
theorem Rd.below (h:Rd w A n xs) (hb:Below w.heap.size w w'):Rd w' A n xs:=h.kept hb.size fun _ hp=>hb.cell hp
theorem Rd.drewN (h:Rd w A n xs) (k:Nat):Rd (w.drewN k) A n xs:=h
theorem Rd.drew (h:Rd w A n xs):Rd w.drew A n xs:=h
theorem Rd.alloc (h:Rd w A n xs) (o:Obj):Rd (w.alloc o) A n xs:=h.kept (by simp) fun p hp=>World.cell?_alloc_lt w o p hp
theorem Rd.take (h:Rd w A n xs) {k:Nat} (hk:k≤n):Rd w A k (xs.take k):=by
 have hl:=h.1
 refine ⟨by rw [List.length_take];omega,fun hn=>?_⟩
 obtain ⟨b,off,e,hb,hc⟩:=h.2 (by omega)
 refine ⟨b,off,e,hb,fun j u hu=>hc j u ?_⟩
 rw [List.getElem?_take] at hu
 split at hu
 ·exact hu
 ·cases hu
theorem Rd.own {base c:Nat} {e:TypeId} (h:w.ownsRow base e 1 (.slice A n c) n xs):Rd w A n xs:=by
 refine ⟨by simpa using h.1,fun hn=>?_⟩
 rcases h.2 with ⟨_,h0⟩ | ⟨g,cap,cur,hv,_,hg,_,_,_,ht⟩
 ·omega
 ·injection hv with hA _ _
  subst hA
  refine ⟨g,0,rfl,(Array.getElem?_eq_some_iff.1 hg).1,fun j u hu=>?_⟩
  rw [← ht,List.getElem?_take] at hu
  rw [Nat.zero_add,cell_of_row w g j cur e (0,0) hg]
  split at hu
  ·simpa using hu
  ·cases hu
end

/-- what an owned row's value looks like -/
theorem own_form {w:World} {base:Nat} {e:TypeId} {v:Value} {n:Nat} {xs:List Value} (h:w.ownsRow base e 1 v n xs):∃ A c,v=.slice A n c∧n≤c∧c≤maxLen:=by
 rcases h.2 with ⟨rfl,rfl⟩ | ⟨g,cap,cur,rfl,_,_,hn,hc,_⟩
 ·exact ⟨none,0,rfl,Nat.le_refl _,Nat.zero_le _⟩
 ·exact ⟨_,cap,rfl,hn,hc⟩

/-- the lowest m bytes of x,the highest first -/
def be (m x:Nat):List Nat:=(List.range m).map fun i=>x/2^(8*(m-1-i))%256
/-- what bytes tell -/
def val (l:List Nat):Nat:=l.foldl (fun a b=>a*256+b) 0

theorem be_len (m x:Nat):(be m x).length=m:=by simp [be]
theorem be_take (m x i:Nat) (h:i<m):(be m x).take (i+1)=(be m x).take i++[x/2^(8*(m-1-i))%256]:=by
 have hl:i<(be m x).length:=by rw [be_len];exact h
 rw [List.take_succ_eq_append_getElem hl];simp [be]
theorem be_lt (m x:Nat):∀ y∈be m x,y<256:=by
 intro y hy;obtain ⟨i,_,rfl⟩:=List.mem_map.1 hy;exact Nat.mod_lt _ (by decide)
theorem val_snoc (l:List Nat) (y:Nat):val (l++[y])=val l*256+y:=by simp [val]
theorem val_go (l:List Nat):∀ a,(∀ y∈l,y<256)→l.foldl (fun a b=>a*256+b) a<(a+1)*256^l.length:=by
 induction l with
 | nil=>intro a _;simp
 | cons y l ih=>
  intro a h
  have h1:=ih (a*256+y) fun z hz=>h z (List.mem_cons_of_mem _ hz)
  have h2:=h y (by simp)
  have h3:(a*256+y+1)*256^l.length≤((a+1)*256)*256^l.length:=Nat.mul_le_mul_right _ (by omega)
  simp only [List.foldl_cons,List.length_cons,Nat.pow_succ]
  have h4:(a+1)*(256^l.length*256)=(a+1)*256*256^l.length:=by rw [Nat.mul_comm (256^l.length) 256,Nat.mul_assoc]
  omega
theorem val_lt (l:List Nat) (h:∀ y∈l,y<256):val l<256^l.length:=by simpa [val] using val_go l 0 h
end Go.Proofs.YtlphnfajhpkleaaDoor.By

/-
 nums.putWords: b,and behind it the lowest so many bytes of each word.
-/
namespace Go.Proofs.YtlphnfajhpkleaaDoor.By
set_option maxRecDepth 100000
set_option linter.unusedSimpArgs false
set_option linter.unusedVariables false
open Go.RowKit

theorem Tryd.info5:(Tryd.prog.info? 5).map (fun i=>(i.zero,i.size,i.bytes))=some (some (.int .u8 0),1,1):=by kernel_rfl

/-- the cells of a slice that reads as a list,as append's laws ask for them -/
theorem Rd.src {w:World} {A:Option Addr} {n:Nat} {xs:List Value} (h:Rd w A n xs):∀ ad,A=some ad→∀ j u,xs[j]? = some u→w.cell? (ad.add j)=some u:=by
 intro ad e j u hu
 have hl:j<xs.length:=(List.getElem?_eq_some_iff.1 hu).1
 obtain ⟨b,off,e',_,hc⟩:=h.2 (by have:=h.1;omega)
 rw [e'] at e
 obtain rfl:=Option.some.inj e
 rw [Addr.add_lit]
 exact hc j u hu

theorem flat_step (xs:List Nat) (k j:Nat) (h:j<xs.length):(xs.take j).flatMap (be k)++(be k (xs.getD j 0)).take k=(xs.take (j+1)).flatMap (be k):=by
 have e:(be k (xs.getD j 0)).take k=be k (xs.getD j 0):=List.take_of_length_le (by rw [be_len];exact Nat.le_refl _)
 rw [e,List.take_succ_eq_append_getElem h]
 rw [List.flatMap_append]
 simp [List.getElem?_eq_getElem h]

theorem one_new (w:World) (t:TypeId) (v:Value):∀ j u,[v][j]? = some u→(w.alloc (.cells #[v] t)).cell? ((⟨w.heap.size,0,none⟩:Addr).add j)=some u:=by
 intro j u hj
 match j,hj with
 | 0,hj=>simp at hj;subst hj;simp [Addr.add]
theorem one_cell (k:IntKind) (x:Int):∀ u∈[Value.int k x],u.oneCell'=true:=by intro u hu;simp at hu;subst hu;rfl

theorem byte_step (l ys:List Nat) (k x t:Nat) (h:t<k) :
  bs (l++(ys++(be k x).take t))++[Value.int .u8 ((x:Int)/2^(8*(k-1-t))%256)]=bs (l++(ys++(be k x).take (t+1))):=by
 rw [be_take k x t h,← List.append_assoc,← List.append_assoc,← List.append_assoc,bs_append (l++ys++_)]
 simp [bs]

set_option maxHeartbeats 1000000 in
theorem putWords_ok (A W:Option Addr) (n c m d k q:Nat) (l xs:List Nat) (w:World) (h8:k≤8) (hm4:m≤4) (hn:n≤4194304) (hc:n≤c) (hnil:A=none→n=0∧c=0)
  (hr:Rd w A n (bs l)) (hw:Rd w W m (ws xs)) (hx:∀ y∈xs,y<18446744073709551616) (hq:k*m=q) :
  Calls Tryd.prog 57 #[.slice A n c,.int .i64 k,.slice W m d] w fun e w'=>e=.returned (.slice (some ⟨w.heap.size,0,none⟩) (n+q) (n+q)) ∧
   w'.ownsRow w.heap.size 5 1 (.slice (some ⟨w.heap.size,0,none⟩) (n+q) (n+q)) (n+q) (bs (l++xs.flatMap (be k)))∧Below w.heap.size w w':=by
 obtain ⟨i0,hi,hz0,hz1,hz2⟩:=info_parts Tryd.info5
 have hq32:q≤32:=by rw [← hq];exact Nat.mul_le_mul h8 hm4
 have hqw:wrap64 ((k:Int)*(m:Int))=(q:Int):=by rw [← hq];rw [IntWalk.wrap64_in _ (by have:=Nat.mul_le_mul h8 hm4;constructor <;> omega)];simp
 have HQ:=Lib.hid hq
 clear hq
 go_enter Tryd.func57,Tryd.ntmps57
 go_wp2_with (at_make;refine wpList_make_own _ rfl _ _ 64 rfl w.heap.size 5 i0 (.int .u8 0) 1 Tryd.underlying64 hi hz0 hz1 _ _ _ (n+q) rfl rfl (by omega) ?b2 ?b3 (Nat.le_refl _) ?_)
 case b2=>rw [hz2];omega
 case b3=>unfold maxLen;omega
 intro w0 hown0 hgrow0
 clear hqw
 have hb0:Below w.heap.size w w0:=(Below.refl _ _).grown hgrow0 (Nat.le_refl _) (by simp)
 have hr0:=hr.below hb0
 go_wp2_with (at_builtin;refine wpList_append_fits_any _ rfl (.tmp 18) (.tmp 19) 64 rfl w.heap.size 5 i0 1 Tryd.underlying64 hi hz1 w.heap.size 0 (n+q) [] rfl hown0 A n c (bs l) rfl (by have:=hr.1;omega) hnil hr0.src (bs_one l) (by omega) ?_;intro w1 hown1 hgrow1;simp only [Nat.zero_add,List.nil_append] at hown1)
 have hb1:Below w.heap.size w w1:=hb0.grown hgrow1 hb0.size (by simp)
 clear hgrow0 hgrow1 hown0 hr0 hb0 hnil hr
 go_loopw [7,23] (fun v i wr=>∃ j p:Nat,j≤m∧Hid (p=k*j)∧i=.int .i64 j∧v=.slice (some ⟨w.heap.size,0,none⟩) (n+p) (n+q) ∧
   wr.ownsRow w.heap.size 5 1 (.slice (some ⟨w.heap.size,0,none⟩) (n+p) (n+q)) (n+p) (bs (l++(xs.take j).flatMap (be k)))∧Below w.heap.size w wr) (fun _ i _=>m-(intOf i).toNat)
 case atStart=>exact ⟨0,0,Nat.zero_le _,Lib.hid (by simp),rfl,rfl,by simpa using hown1,hb1⟩
 case round=>
  obtain ⟨j,p,hj,hp,rfl,rfl,hown,hbr⟩:=hrel
  clear hown1 hb1
  by_cases hlt:j<m
  ·have hpk:p+k≤q:=by
    have e1:=hp.out
    have e2:=HQ.out
    have e3:k*(j+1)≤k*m:=Nat.mul_le_mul_left k hlt
    rw [Nat.mul_add] at e3
    omega
   obtain ⟨b,off,rfl,hbs,hcell⟩:=hw.spot hlt
   have hxl:j<xs.length:=by have:=hw.1;simp [ws] at this;omega
   have hxj:wr.cell? ⟨b,off+j,none⟩=some (.int .u64 (xs.getD j 0:Nat)):=(hbr.cell (by exact hbs)).trans (hcell j _ (ws_at xs j hxl))
   have hfl:=Lib.hid (flat_step xs k j hxl)
   obtain ⟨x,hxe⟩:∃ x,x=xs.getD j 0:=⟨_,rfl⟩
   have hx64:x<18446744073709551616:=by rw [hxe];exact hx _ (by simp [hxl])
   rw [← hxe] at hxj hfl
   have HX:=Lib.hid hxe
   clear hxe hcell hw hx
   go_wp2
   obtain ⟨wo,rfl⟩:∃ wo:World,wo=wr:=⟨_,rfl⟩
   go_loopw [7,28] (fun v i wi=>∃ t:Nat,t≤k∧i=.int .i64 t∧v=.slice (some ⟨w.heap.size,0,none⟩) (n+p+t) (n+q) ∧
     wi.ownsRow w.heap.size 5 1 (.slice (some ⟨w.heap.size,0,none⟩) (n+p+t) (n+q)) (n+p+t) (bs (l++((xs.take j).flatMap (be k)++(be k x).take t)))∧Below w.heap.size w wi) (fun _ i _=>k-(intOf i).toNat)
   case atStart=>exact ⟨0,Nat.zero_le _,rfl,rfl,by simpa using hown,hbr⟩
   case round=>
    obtain ⟨t,ht,rfl,rfl,hown1,hbr1⟩:=hrel
    by_cases htl:t<k
    ·have hbt:=Lib.hid (byte_step l ((xs.take j).flatMap (be k)) k x t htl)
     go_wp2_with (at_builtin;refine wpList_append_fits _ rfl (.tmp 31) (.tmp 40) 64 rfl w.heap.size 5 i0 1 Tryd.underlying64 hi hz1 w.heap.size (n+p+t) (n+q) _ rfl (hown1.alloc _) ⟨wr.heap.size,0,none⟩ 1 1 [.int .u8 ((x:Int)/2^(8*(k-1-t))%256)] rfl rfl (one_new _ _ _) (one_cell _ _) (by omega) ?_;intro w2 hown2 hgrow2)
     rw [hbt.out] at hown2
     have hbr2:Below w.heap.size w w2:=(hbr1.alloc hbr1.size _).grown hgrow2 (by have:=hbr1.size;simp;omega) (by simp)
     clear hown1 hgrow2 hbr1
     go_wp2
     go_roundw
     case rel=>exact ⟨t+1,by omega,by go_num,rfl,hown2,hbr2⟩
     case measure=>simp [intOf];omega
    ·obtain rfl:t=k:=by omega
     rw [hfl.out] at hown1
     have hp2:Hid (p+t=t*(j+1)):=Lib.hid (by rw [hp.out,Nat.mul_add,Nat.mul_one])
     go_wp2
     go_roundw
     case rel=>exact ⟨j+1,p+t,by omega,hp2,by go_num,by rw [Nat.add_assoc],by rw [← Nat.add_assoc];exact hown1,hbr1⟩
     case measure=>simp [intOf];omega
  ·obtain rfl:j=m:=by omega
   obtain rfl:p=q:=by rw [hp.out,HQ.out]
   have hxs:xs.take j=xs:=List.take_of_length_le (by have:=hw.1;simp [ws] at this;omega)
   rw [hxs] at hown
   clear hxs
   go_wp2
   go_ret
   exact ⟨rfl,hown,hbr⟩
end Go.Proofs.YtlphnfajhpkleaaDoor.By

/-
 nums.Get: what it answers,whatever bytes it is given.
-/
namespace Go.Proofs.YtlphnfajhpkleaaDoor.By
set_option maxRecDepth 100000
open Go.RowKit

theorem val_step (l:List Nat) (j:Nat) (hj:j<8) (hl:j<l.length) (hb:∀ y∈l,y<256) :
  bits BinOp.or IntKind.u64 (IntKind.u64.wrap (↑(val (List.take j l))*256)) (IntKind.u64.wrap ↑(l[j]?.getD 0))=((val (l.take (j+1)):Nat):Int):=by
 have h1:=val_lt (l.take j) fun y hy=>hb y (List.mem_of_mem_take hy)
 have h2:(l.take j).length=j:=by rw [List.length_take];omega
 have h3:256^j≤256^7:=Nat.pow_le_pow_right (by decide) (by omega)
 rw [h2] at h1
 have h4:(256:Nat)^7=72057594037927936:=by decide
 have h5:l[j]<256:=hb _ (List.getElem_mem hl)
 rw [List.take_succ_eq_append_getElem hl,val_snoc,IntKind.wrap_u64,IntKind.wrap_u64]
 generalize val (l.take j)=P at *
 have e1:((P:Int)*256)%18446744073709551616=((P*256:Nat):Int):=by omega
 have e2:(((l[j]?.getD 0:Nat):Int))%18446744073709551616=((l[j]:Nat):Int):=by rw [List.getElem?_eq_getElem hl];simp;omega
 rw [e1,e2,u64_or_nat _ _ (by omega) (by omega),nat_join 8 _ _ (by omega) h5]

theorem get_ok (A:Option Addr) (n c k:Nat) (l:List Nat) (w:World) (h8:k≤8) (h:k≤n) (hc:n≤c) (hm:c≤9223372036854775807) (hr:Rd w A n (bs l)) (hb:∀ y∈l,y<256) :
  Calls Tryd.prog 71 #[.slice A n c,.int .i64 k] w fun e w'=>e=.returned (.tuple #[.int .u64 (val (l.take k):Nat),.int .i64 0])∧w=w':=by
 have h0:decide ((k:Int)<0)=false:=by simp
 have h1:decide ((8:Int)<(k:Int))=false:=by simp;omega
 have h2:decide (n<k)=false:=by simp;omega
 go_enter Tryd.func71,Tryd.ntmps71
 go_wp2
 go_loop [6,23] (fun t i=>∃ j:Nat,j≤k∧i=.int .i64 j∧t=.int .u64 (val (l.take j):Nat)) (fun _ i=>k-(intOf i).toNat)
 case atStart=>exact ⟨0,Nat.zero_le _,rfl,rfl⟩
 case round=>
  obtain ⟨j,hj,rfl,rfl⟩:=hrel
  by_cases hlt:j<k
  ·obtain ⟨b,off,rfl,hbs,hcell⟩:=hr.spot (show j<n by omega)
   have hln:l.length=n:=by have:=hr.1;rw [bs_len] at this;exact this
   have hx:w.cell? ⟨b,off+j,none⟩=some (.int .u8 (l.getD j 0:Nat)):=hcell j _ (bs_at l j (by omega))
   have hv:=Lib.hid (val_step l j (by omega) (by omega) hb)
   clear hcell hr hln hb
   go_wp2
   go_round
   case rel=>exact ⟨j+1,by omega,by go_num,by rw [hv.out]⟩
   case measure=>simp [intOf];omega
  ·obtain rfl:j=k:=by omega
   go_wp2
   go_ret2
   exact ⟨rfl,rfl⟩
end Go.Proofs.YtlphnfajhpkleaaDoor.By

/-
 nums.Put,PutLong,PutBytes,GetLong,GetBytes: what they answer.
-/
namespace Go.Proofs.YtlphnfajhpkleaaDoor.By
set_option maxRecDepth 100000
set_option linter.unusedSimpArgs false
set_option linter.unusedVariables false
open Go.RowKit

/-- a row of words that a call has just built -/
theorem Rd.built (w:World) (t:TypeId) (xs:List Value) (h:0<xs.length):Rd (w.alloc (.cells xs.toArray t)) (some ⟨w.heap.size,0,none⟩) xs.length xs:=by
 refine ⟨rfl,fun _=>⟨_,0,rfl,by simp,fun j u hu=>?_⟩⟩
 rw [Nat.zero_add,cell_of_row _ w.heap.size j xs.toArray t (0,0) (heap_alloc_new w _)]
 simpa using hu

theorem put_any (A:Option Addr) (n c k x:Nat) (kk:Int) (l:List Nat) (w:World) (hk:(kk<0∧k=0)∨(0≤kk∧kk≤8∧kk=k)∨(8<kk∧k=8)) (hn:n≤4194304) (hc:n≤c) (hnil:A=none→n=0∧c=0)
  (hr:Rd w A n (bs l)) (hx:x<18446744073709551616) :
  Calls Tryd.prog 68 #[.slice A n c,.int .u64 x,.int .i64 kk] w fun e w'=>e=.returned (.slice (some ⟨w.heap.size+1,0,none⟩) (n+k) (n+k)) ∧
   w'.ownsRow (w.heap.size+1) 5 1 (.slice (some ⟨w.heap.size+1,0,none⟩) (n+k) (n+k)) (n+k) (bs (l++be k x))∧Below w.heap.size w w':=by
 have hk8:k≤8:=by omega
 have hrw:Rd (w.alloc (.cells #[.int .u64 (x:Int)] 22)) (some ⟨w.heap.size,0,none⟩) 1 (ws [x]):=Rd.built w 22 (ws [x]) (by simp [ws])
 have H:=Lib.hid ((putWords_ok A _ n c 1 1 k k l [x] _ hk8 (by omega) hn hc hnil (hr.alloc _) hrw (by simpa using hx) (by simp)).mono (R':=fun e w'=>e=.returned (.slice (some ⟨w.heap.size+1,0,none⟩) (n+k) (n+k)) ∧
   w'.ownsRow (w.heap.size+1) 5 1 (.slice (some ⟨w.heap.size+1,0,none⟩) (n+k) (n+k)) (n+k) (bs (l++be k x))∧Below w.heap.size w w')
   (fun e w' h => by
    obtain ⟨he,ho,hb⟩:=h
    simp at he ho
    exact ⟨he,ho,((Below.refl _ _).alloc (Nat.le_refl _) _).trans (hb.mono (by simp))⟩))
 clear hrw hr hx
 rcases hk with ⟨h1,rfl⟩ | ⟨h1,h2,rfl⟩ | ⟨h1,rfl⟩
 ·have e1:(if kk<0 then (0:Int) else kk)=0:=if_pos h1
  go_enter Tryd.func68,Tryd.ntmps68
  go_wp2_with (go_at_call 57;refine H.out.mono ?_;rintro e w' ⟨rfl,hown,hb⟩)
  go_ret
  exact ⟨rfl,hown,hb⟩
 ·have e1:(if (k:Int)<0 then (0:Int) else k)=k:=if_neg (by omega)
  go_enter Tryd.func68,Tryd.ntmps68
  go_wp2_with (go_at_call 57;refine H.out.mono ?_;rintro e w' ⟨rfl,hown,hb⟩)
  go_ret
  exact ⟨rfl,hown,hb⟩
 ·have e1:(if kk<0 then (0:Int) else kk)=kk:=if_neg (by omega)
  go_enter Tryd.func68,Tryd.ntmps68
  go_wp2_with (go_at_call 57;refine H.out.mono ?_;rintro e w' ⟨rfl,hown,hb⟩)
  go_ret
  exact ⟨rfl,hown,hb⟩

end Go.Proofs.YtlphnfajhpkleaaDoor.By

/-
 nums.PutLong: what it answers.
-/
namespace Go.Proofs.YtlphnfajhpkleaaDoor.By
set_option maxRecDepth 100000
set_option linter.unusedSimpArgs false
set_option linter.unusedVariables false
open Go.RowKit

def longs (a b p q:Nat):List Nat:=be 8 q++(be 8 p++(be 8 b++be 8 a))
theorem putLong_any (A:Option Addr) (n c a b p q:Nat) (l:List Nat) (w:World) (hn:n≤4194304) (hc:n≤c) (hnil:A=none→n=0∧c=0)
  (hr:Rd w A n (bs l)) (ha:a<18446744073709551616) (hb:b<18446744073709551616) (hp:p<18446744073709551616) (hq:q<18446744073709551616) :
  Calls Tryd.prog 40 #[.slice A n c,.agg #[.int .u64 a,.int .u64 b,.int .u64 p,.int .u64 q]] w fun e w'=>e=.returned (.slice (some ⟨w.heap.size+2,0,none⟩) (n+32) (n+32)) ∧
   w'.ownsRow (w.heap.size+2) 5 1 (.slice (some ⟨w.heap.size+2,0,none⟩) (n+32) (n+32)) (n+32) (bs (l++longs a b p q))∧Below w.heap.size w w':=by
 obtain ⟨wa,hwa⟩:∃ wa,wa=w.alloc (.cells #[.int .u64 (a:Int),.int .u64 (b:Int),.int .u64 (p:Int),.int .u64 (q:Int)] 24):=⟨_,rfl⟩
 have hrw:Rd (wa.alloc (.cells #[.int .u64 (q:Int),.int .u64 (p:Int),.int .u64 (b:Int),.int .u64 (a:Int)] 22)) (some ⟨wa.heap.size,0,none⟩) 4 (ws [q,p,b,a]):=Rd.built wa 22 (ws [q,p,b,a]) (by simp [ws])
 have hr1:Rd wa A n (bs l):=by rw [hwa];exact hr.alloc _
 have hsz:wa.heap.size=w.heap.size+1:=by rw [hwa];simp
 have hbw:Below w.heap.size w wa:=by rw [hwa];exact (Below.refl _ _).alloc (Nat.le_refl _) _
 have H:=Lib.hid ((putWords_ok A _ n c 4 4 8 32 l [q,p,b,a] _ (by omega) (by omega) hn hc hnil (hr1.alloc _) hrw (by simp;omega) (by simp)).mono (R':=fun e w'=>e=.returned (.slice (some ⟨w.heap.size+2,0,none⟩) (n+32) (n+32)) ∧
   w'.ownsRow (w.heap.size+2) 5 1 (.slice (some ⟨w.heap.size+2,0,none⟩) (n+32) (n+32)) (n+32) (bs (l++longs a b p q))∧Below w.heap.size w w')
   (fun e w' h => by
    obtain ⟨he,ho,hb⟩:=h
    simp [hsz] at he ho
    exact ⟨he,ho,(hbw.alloc (by omega) _).trans (hb.mono (by simp;omega))⟩))
 rw [hsz] at H
 subst hwa
 clear hrw hr hr1 hbw hsz
 go_enter Tryd.func40,Tryd.ntmps40
 go_wp2_with (go_at_call 57;refine H.out.mono ?_;rintro e w' ⟨rfl,hown,hb⟩)
 go_ret
 exact ⟨rfl,hown,hb⟩
end Go.Proofs.YtlphnfajhpkleaaDoor.By
