/-
 scalars: Add,Sub,Mul,Inv;the document's too.
-/
import Derived.Deep.Cut
import Derived.Test.YtlphnfajhpkleaaDoorMMof
import Derived.Test.YtlphnfajhpkleaaDoorMSc
import Derived.Test.YtlphnfajhpkleaaDoorMSmall
namespace Go.Proofs.YtlphnfajhpkleaaDoor
set_option maxRecDepth 100000
open Go.RowKit
set_option linter.unusedSimpArgs false
set_option linter.unusedVariables false
attribute [local go_sem ↓] Go.wp_at_zero Go.wp_at_succ

set_option maxRecDepth 100000 in
set_option maxHeartbeats 8000000 in
theorem s_add (P Q G H A B V:Nat) (er:Int)
  (c1:∀ w,Calls Tryd.prog 31 #[num A,num B,num Q] w fun e w'=>e=.returned (.tuple #[num V,.int .i64 er])∧Below w.heap.size w w')
  (w:World):Calls Tryd.prog 17 #[grp P Q G H,num A,num B] w fun e w'=>e=.returned (.tuple #[num V,.int .i64 er])∧Below w.heap.size w w':=by
 refine sx_enter (args:=[grp P Q G H,num A,num B]) Tryd.func17 rfl Tryd.ntmps17 (by rfl) fun a F HM=>?_
 repeat first|refine et1 ?_|refine eb1 ?_|refine ws1 ?_|refine wb1 ?_|refine wk1 ?_
 refine wp_region_lit ?_
 refine lx_new F HM (wanted_none rfl _) rfl (by rfl) (o_boxG (F.ev rfl)) fun a w gg F HM=>?_
 refine lx_new F HM (wanted_none rfl _) rfl (by rfl) (o_boxN (F.ev rfl)) fun a w ga F HM=>?_
 refine lx_new F HM (wanted_none rfl _) rfl (by rfl) (o_boxN (F.ev rfl)) fun a w gb F HM=>?_
 refine lx_new F HM (wanted_none rfl _) rfl (by rfl) (o_allocN) fun a w go F HM=>?_
 refine lxv (.int .i64 0) F (o_assign rfl) fun a F=>?_
 refine lx_nil ?_
 repeat first|refine et1 ?_|refine eb1 ?_|refine ws1 ?_|refine wb1 ?_|refine wk1 ?_
 refine wp_region_lit ?_
 refine lxv (num A) F (o_loadN (F.ev rfl) (HM.get 2 rfl)) fun a F=>?_
 refine lxv (num B) F (o_loadN (F.ev rfl) (HM.get 1 rfl)) fun a F=>?_
 refine lxv (.pointer (some ⟨gg,4,none⟩)) F (o_fieldG1 (F.ev rfl)) fun a F=>?_
 refine lxv (num Q) F (o_loadG1 (F.ev rfl) (HM.get 3 rfl)) fun a F=>?_
 refine lx_call F (wanted_none rfl _) rfl (by rfl) (run_callF Tryd.func31 (by kernel_rfl) (by rfl) (.cons (F.ev rfl) (.cons (F.ev rfl) (.cons (F.ev rfl) .nil))) _) (c1 _) fun a w z F=>?_
 replace HM:=HM.on z
 clear z
 refine lxv (num V) F (o_extract (F.ev rfl) rfl) fun a F=>?_
 refine lxv (.int .i64 er) F (o_extract (F.ev rfl) rfl) fun a F=>?_
 refine lx_store F HM (wanted_none rfl _) rfl (k:=0) rfl (o_storeN (F.ev rfl) (F.ev rfl) (HM.get 0 rfl)) (M2:=[(go,24,ncs V),(gb,24,ncs B),(ga,24,ncs A),(gg,26,gcs P Q G H)]) rfl fun w HM=>?_
 refine lxv (.int .i64 er) F (o_assign (F.ev rfl)) fun a F=>?_
 refine lx_nil ?_
 repeat first|refine et1 ?_|refine eb1 ?_|refine ws1 ?_|refine wb1 ?_|refine wk1 ?_
 refine wp_ret ?_
 repeat (first | refine ex_thenR ?_ | refine ex_blockR ?_)
 exact sx_ret F HM (res_NI F (s:=6) (t:=7) rfl rfl rfl (HM.get 0 rfl))

set_option maxRecDepth 100000 in
set_option maxHeartbeats 8000000 in
theorem s_sub (P Q G H A B V:Nat) (er:Int)
  (c1:∀ w,Calls Tryd.prog 27 #[num A,num B,num Q] w fun e w'=>e=.returned (.tuple #[num V,.int .i64 er])∧Below w.heap.size w w')
  (w:World):Calls Tryd.prog 13 #[grp P Q G H,num A,num B] w fun e w'=>e=.returned (.tuple #[num V,.int .i64 er])∧Below w.heap.size w w':=by
 refine sx_enter (args:=[grp P Q G H,num A,num B]) Tryd.func13 rfl Tryd.ntmps13 (by rfl) fun a F HM=>?_
 repeat first|refine et1 ?_|refine eb1 ?_|refine ws1 ?_|refine wb1 ?_|refine wk1 ?_
 refine wp_region_lit ?_
 refine lx_new F HM (wanted_none rfl _) rfl (by rfl) (o_boxG (F.ev rfl)) fun a w gg F HM=>?_
 refine lx_new F HM (wanted_none rfl _) rfl (by rfl) (o_boxN (F.ev rfl)) fun a w ga F HM=>?_
 refine lx_new F HM (wanted_none rfl _) rfl (by rfl) (o_boxN (F.ev rfl)) fun a w gb F HM=>?_
 refine lx_new F HM (wanted_none rfl _) rfl (by rfl) (o_allocN) fun a w go F HM=>?_
 refine lxv (.int .i64 0) F (o_assign rfl) fun a F=>?_
 refine lx_nil ?_
 repeat first|refine et1 ?_|refine eb1 ?_|refine ws1 ?_|refine wb1 ?_|refine wk1 ?_
 refine wp_region_lit ?_
 refine lxv (num A) F (o_loadN (F.ev rfl) (HM.get 2 rfl)) fun a F=>?_
 refine lxv (num B) F (o_loadN (F.ev rfl) (HM.get 1 rfl)) fun a F=>?_
 refine lxv (.pointer (some ⟨gg,4,none⟩)) F (o_fieldG1 (F.ev rfl)) fun a F=>?_
 refine lxv (num Q) F (o_loadG1 (F.ev rfl) (HM.get 3 rfl)) fun a F=>?_
 refine lx_call F (wanted_none rfl _) rfl (by rfl) (run_callF Tryd.func27 (by kernel_rfl) (by rfl) (.cons (F.ev rfl) (.cons (F.ev rfl) (.cons (F.ev rfl) .nil))) _) (c1 _) fun a w z F=>?_
 replace HM:=HM.on z
 clear z
 refine lxv (num V) F (o_extract (F.ev rfl) rfl) fun a F=>?_
 refine lxv (.int .i64 er) F (o_extract (F.ev rfl) rfl) fun a F=>?_
 refine lx_store F HM (wanted_none rfl _) rfl (k:=0) rfl (o_storeN (F.ev rfl) (F.ev rfl) (HM.get 0 rfl)) (M2:=[(go,24,ncs V),(gb,24,ncs B),(ga,24,ncs A),(gg,26,gcs P Q G H)]) rfl fun w HM=>?_
 refine lxv (.int .i64 er) F (o_assign (F.ev rfl)) fun a F=>?_
 refine lx_nil ?_
 repeat first|refine et1 ?_|refine eb1 ?_|refine ws1 ?_|refine wb1 ?_|refine wk1 ?_
 refine wp_ret ?_
 repeat (first | refine ex_thenR ?_ | refine ex_blockR ?_)
 exact sx_ret F HM (res_NI F (s:=6) (t:=7) rfl rfl rfl (HM.get 0 rfl))

set_option maxRecDepth 100000 in
set_option maxHeartbeats 8000000 in
theorem s_mul (P Q G H A B V:Nat) (er:Int)
  (c1:∀ w,Calls Tryd.prog 29 #[num A,num B,num Q] w fun e w'=>e=.returned (.tuple #[num V,.int .i64 er])∧Below w.heap.size w w')
  (w:World):Calls Tryd.prog 15 #[grp P Q G H,num A,num B] w fun e w'=>e=.returned (.tuple #[num V,.int .i64 er])∧Below w.heap.size w w':=by
 refine sx_enter (args:=[grp P Q G H,num A,num B]) Tryd.func15 rfl Tryd.ntmps15 (by rfl) fun a F HM=>?_
 repeat first|refine et1 ?_|refine eb1 ?_|refine ws1 ?_|refine wb1 ?_|refine wk1 ?_
 refine wp_region_lit ?_
 refine lx_new F HM (wanted_none rfl _) rfl (by rfl) (o_boxG (F.ev rfl)) fun a w gg F HM=>?_
 refine lx_new F HM (wanted_none rfl _) rfl (by rfl) (o_boxN (F.ev rfl)) fun a w ga F HM=>?_
 refine lx_new F HM (wanted_none rfl _) rfl (by rfl) (o_boxN (F.ev rfl)) fun a w gb F HM=>?_
 refine lx_new F HM (wanted_none rfl _) rfl (by rfl) (o_allocN) fun a w go F HM=>?_
 refine lxv (.int .i64 0) F (o_assign rfl) fun a F=>?_
 refine lx_nil ?_
 repeat first|refine et1 ?_|refine eb1 ?_|refine ws1 ?_|refine wb1 ?_|refine wk1 ?_
 refine wp_region_lit ?_
 refine lxv (num A) F (o_loadN (F.ev rfl) (HM.get 2 rfl)) fun a F=>?_
 refine lxv (num B) F (o_loadN (F.ev rfl) (HM.get 1 rfl)) fun a F=>?_
 refine lxv (.pointer (some ⟨gg,4,none⟩)) F (o_fieldG1 (F.ev rfl)) fun a F=>?_
 refine lxv (num Q) F (o_loadG1 (F.ev rfl) (HM.get 3 rfl)) fun a F=>?_
 refine lx_call F (wanted_none rfl _) rfl (by rfl) (run_callF Tryd.func29 (by kernel_rfl) (by rfl) (.cons (F.ev rfl) (.cons (F.ev rfl) (.cons (F.ev rfl) .nil))) _) (c1 _) fun a w z F=>?_
 replace HM:=HM.on z
 clear z
 refine lxv (num V) F (o_extract (F.ev rfl) rfl) fun a F=>?_
 refine lxv (.int .i64 er) F (o_extract (F.ev rfl) rfl) fun a F=>?_
 refine lx_store F HM (wanted_none rfl _) rfl (k:=0) rfl (o_storeN (F.ev rfl) (F.ev rfl) (HM.get 0 rfl)) (M2:=[(go,24,ncs V),(gb,24,ncs B),(ga,24,ncs A),(gg,26,gcs P Q G H)]) rfl fun w HM=>?_
 refine lxv (.int .i64 er) F (o_assign (F.ev rfl)) fun a F=>?_
 refine lx_nil ?_
 repeat first|refine et1 ?_|refine eb1 ?_|refine ws1 ?_|refine wb1 ?_|refine wk1 ?_
 refine wp_ret ?_
 repeat (first | refine ex_thenR ?_ | refine ex_blockR ?_)
 exact sx_ret F HM (res_NI F (s:=6) (t:=7) rfl rfl rfl (HM.get 0 rfl))

set_option maxRecDepth 100000 in
set_option maxHeartbeats 8000000 in
theorem s_inv (P Q G H A V:Nat) (er:Int)
  (c1:∀ w,Calls Tryd.prog 28 #[num A,num Q] w fun e w'=>e=.returned (.tuple #[num V,.int .i64 er])∧Below w.heap.size w w')
  (w:World):Calls Tryd.prog 14 #[grp P Q G H,num A] w fun e w'=>e=.returned (.tuple #[num V,.int .i64 er])∧Below w.heap.size w w':=by
 refine sx_enter (args:=[grp P Q G H,num A]) Tryd.func14 rfl Tryd.ntmps14 (by rfl) fun a F HM=>?_
 repeat first|refine et1 ?_|refine eb1 ?_|refine ws1 ?_|refine wb1 ?_|refine wk1 ?_
 refine wp_region_lit ?_
 refine lx_new F HM (wanted_none rfl _) rfl (by rfl) (o_boxG (F.ev rfl)) fun a w gg F HM=>?_
 refine lx_new F HM (wanted_none rfl _) rfl (by rfl) (o_boxN (F.ev rfl)) fun a w ga F HM=>?_
 refine lx_new F HM (wanted_none rfl _) rfl (by rfl) (o_allocN) fun a w go F HM=>?_
 refine lxv (.int .i64 0) F (o_assign rfl) fun a F=>?_
 refine lx_nil ?_
 repeat first|refine et1 ?_|refine eb1 ?_|refine ws1 ?_|refine wb1 ?_|refine wk1 ?_
 refine wp_region_lit ?_
 refine lxv (num A) F (o_loadN (F.ev rfl) (HM.get 1 rfl)) fun a F=>?_
 refine lxv (.pointer (some ⟨gg,4,none⟩)) F (o_fieldG1 (F.ev rfl)) fun a F=>?_
 refine lxv (num Q) F (o_loadG1 (F.ev rfl) (HM.get 2 rfl)) fun a F=>?_
 refine lx_call F (wanted_none rfl _) rfl (by rfl) (run_callF Tryd.func28 (by kernel_rfl) (by rfl) (.cons (F.ev rfl) (.cons (F.ev rfl) .nil)) _) (c1 _) fun a w z F=>?_
 replace HM:=HM.on z
 clear z
 refine lxv (num V) F (o_extract (F.ev rfl) rfl) fun a F=>?_
 refine lxv (.int .i64 er) F (o_extract (F.ev rfl) rfl) fun a F=>?_
 refine lx_store F HM (wanted_none rfl _) rfl (k:=0) rfl (o_storeN (F.ev rfl) (F.ev rfl) (HM.get 0 rfl)) (M2:=[(go,24,ncs V),(ga,24,ncs A),(gg,26,gcs P Q G H)]) rfl fun w HM=>?_
 refine lxv (.int .i64 er) F (o_assign (F.ev rfl)) fun a F=>?_
 refine lx_nil ?_
 repeat first|refine et1 ?_|refine eb1 ?_|refine ws1 ?_|refine wb1 ?_|refine wk1 ?_
 refine wp_ret ?_
 repeat (first | refine ex_thenR ?_ | refine ex_blockR ?_)
 exact sx_ret F HM (res_NI F (s:=4) (t:=5) rfl rfl rfl (HM.get 0 rfl))

theorem sadd_yes (P Q G H A B:Nat) (hQ:Q<2^256) (h1:1<Q) (hA:A<Q) (hB:B<Q):∀ w,Calls Tryd.prog 17 #[grp P Q G H,num A,num B] w fun e w'=>e=.returned (.tuple #[num ((A+B)%Q),.int .i64 0])∧Below w.heap.size w w':=fun w=>s_add P Q G H A B _ _ (madd_yes A B Q hQ h1 hA hB) w
theorem sadd_no (P Q G H A B:Nat) (hQ:Q<2^256) (hA:A<2^256) (hB:B<2^256) (h:¬ (1<Q∧A<Q∧B<Q)):∀ w,Calls Tryd.prog 17 #[grp P Q G H,num A,num B] w fun e w'=>e=.returned (.tuple #[num 0,.int .i64 1])∧Below w.heap.size w w':=fun w=>s_add P Q G H A B _ _ (madd_no A B Q hA hB hQ h) w
theorem ssub_yes (P Q G H A B:Nat) (hQ:Q<2^256) (h1:1<Q) (hA:A<Q) (hB:B<Q):∀ w,Calls Tryd.prog 13 #[grp P Q G H,num A,num B] w fun e w'=>e=.returned (.tuple #[num ((A+Q-B)%Q),.int .i64 0])∧Below w.heap.size w w':=fun w=>s_sub P Q G H A B _ _ (msub_yes A B Q hQ h1 hA hB) w
theorem smul_yes (P Q G H A B:Nat) (hQ:Q<2^256) (h1:1<Q) (hA:A<Q) (hB:B<Q):∀ w,Calls Tryd.prog 15 #[grp P Q G H,num A,num B] w fun e w'=>e=.returned (.tuple #[num (A*B%Q),.int .i64 0])∧Below w.heap.size w w':=fun w=>s_mul P Q G H A B _ _ (mmul_yes A B Q hQ h1 hA hB) w
theorem sinv_yes (P Q G H A V:Nat) (hQ:Q<2^256) (h1:1<Q) (hA:A<Q) (hV:V<Q) (hAV:A*V%Q=1):∀ w,Calls Tryd.prog 14 #[grp P Q G H,num A] w fun e w'=>e=.returned (.tuple #[num V,.int .i64 0])∧Below w.heap.size w w':=fun w=>s_inv P Q G H A V _ (minv_yes A Q V hQ h1 hA hV hAV) w
end Go.Proofs.YtlphnfajhpkleaaDoor

/-
 scalars: amount,the closure that gathers,Of;the document's Of.
-/
namespace Go.Proofs.YtlphnfajhpkleaaDoor
set_option maxRecDepth 100000
open Go.RowKit
set_option linter.unusedSimpArgs false
set_option linter.unusedVariables false
attribute [local go_sem ↓] Go.wp_at_zero Go.wp_at_succ

section
variable {x y:Operand} {dst:Option Tmp} {ty:TypeId} {pos:String} {after:Array Edge} {guard:Option (Nat × Bool)} {ρ:Operand→Value} {w:World}
end
/-- what a whole number is,by Q -/
def sofN (Q:Nat) (n:Int):Nat:=if 1<Q then (n%(Q:Int)).toNat else 0
/-- what has been gathered,when k bits are left -/
def lefts (Q S k:Nat):Nat:=if 1<Q then S/2^k%Q else 0
end Go.Proofs.YtlphnfajhpkleaaDoor

/-
 Polynomials over the whole numbers,by Q: what goes through values,and that it is the only one.
-/
namespace Go.Proofs.YtlphnfajhpkleaaDoor
set_option maxRecDepth 100000
open Go.RowKit
set_option linter.unusedSimpArgs false
set_option linter.unusedVariables false
attribute [local go_sem ↓] Go.wp_at_zero Go.wp_at_succ

theorem sof_int {Q:Nat} (h:1<Q) (n:Int):((sofN Q n:Nat):Int)=n%(Q:Int):=by
 unfold sofN;rw [if_pos h]
 exact Int.toNat_of_nonneg (Int.emod_nonneg _ (by omega))
theorem sof_lt {Q:Nat} (h:1<Q) (n:Int):sofN Q n<Q:=by
 have h1:=sof_int h n
 have h2:=Int.emod_lt_of_pos n (show (0:Int)<Q by omega)
 omega
/-- the same,by Q -/
def Cg (Q:Nat) (a b:Int):Prop:=∃ k:Int,a=b+(Q:Int)*k
theorem Cg.refl (Q:Nat) (a:Int):Cg Q a a:=⟨0,by omega⟩
theorem Cg.symm {Q:Nat} {a b:Int}:Cg Q a b→Cg Q b a
 | ⟨k,h⟩=>⟨-k,by subst h;grind⟩
theorem Cg.trans {Q:Nat} {a b c:Int}:Cg Q a b→Cg Q b c→Cg Q a c
 | ⟨k,h⟩,⟨l,h'⟩=>⟨k+l,by subst h;subst h';grind⟩
theorem Cg.add {Q:Nat} {a b c d:Int}:Cg Q a b→Cg Q c d→Cg Q (a+c) (b+d)
 | ⟨k,h⟩,⟨l,h'⟩=>⟨k+l,by subst h;subst h';grind⟩
theorem Cg.sub {Q:Nat} {a b c d:Int}:Cg Q a b→Cg Q c d→Cg Q (a-c) (b-d)
 | ⟨k,h⟩,⟨l,h'⟩=>⟨k-l,by subst h;subst h';grind⟩
theorem Cg.mul {Q:Nat} {a b c d:Int}:Cg Q a b→Cg Q c d→Cg Q (a*c) (b*d)
 | ⟨k,h⟩,⟨l,h'⟩=>⟨b*l+k*d+(Q:Int)*k*l,by subst h;subst h';grind⟩
theorem Cg.mulL {Q:Nat} {c d:Int} (a:Int) (h:Cg Q c d):Cg Q (a*c) (a*d):=(Cg.refl Q a).mul h
theorem Cg.of_eq {Q:Nat} {a b:Int} (h:a=b):Cg Q a b:=by subst h;exact Cg.refl _ _
theorem Cg.emod (Q:Nat) (a:Int):Cg Q (a%(Q:Int)) a:=⟨-(a/(Q:Int)),by have:=Int.emod_add_mul_ediv a (Q:Int);grind⟩
theorem Cg.mod_eq {Q:Nat} {a b:Int}:Cg Q a b→a%(Q:Int)=b%(Q:Int)
 | ⟨k,h⟩=>by subst h;rw [Int.add_mul_emod_self_left]
theorem Cg.eq {Q:Nat} {a b:Nat} (ha:a<Q) (hb:b<Q) (h:Cg Q (a:Int) (b:Int)):a=b:=by
 have h1:=h.mod_eq
 rw [Int.emod_eq_of_lt (by omega) (by omega),Int.emod_eq_of_lt (by omega) (by omega)] at h1
 omega
theorem sof_cg {Q:Nat} (h:1<Q) (z:Int):Cg Q ((sofN Q z:Nat):Int) z:=by rw [sof_int h];exact Cg.emod Q z
/-- it has an inverse,by Q -/
def U (Q:Nat) (a:Int):Prop:=∃ b:Int,Cg Q (a*b) 1
theorem U.left {Q:Nat} {a b:Int}:U Q (a*b)→U Q a
 | ⟨c,h⟩=>⟨b*c,by rw [← Int.mul_assoc];exact h⟩
theorem U.right {Q:Nat} {a b:Int}:U Q (a*b)→U Q b
 | ⟨c,h⟩=>⟨a*c,by rw [show b*(a*c)=a*b*c by grind];exact h⟩
theorem U.mul {Q:Nat} {a b:Int}:U Q a→U Q b→U Q (a*b)
 | ⟨c,h⟩,⟨d,h'⟩=>⟨c*d,by rw [show a*b*(c*d)=a*c*(b*d) by grind];exact h.mul h'⟩
theorem U.one (Q:Nat):U Q 1:=⟨1,Cg.refl _ _⟩
theorem U.cg {Q:Nat} {a b:Int} (h:Cg Q a b):U Q a→U Q b
 | ⟨c,h'⟩=>⟨c,(h.symm.mul (Cg.refl Q c)).trans h'⟩
theorem U.gcd {Q A:Nat} (h1:1<Q) (h:U Q (A:Int)):Nat.gcd A Q=1:=by
 obtain ⟨b,hb⟩:=h
 have h2:Cg Q ((A*sofN Q b:Nat):Int) 1:=by
  rw [Int.natCast_mul]
  exact (Cg.mulL _ (sof_cg h1 b)).trans hb
 refine inv_gcd A Q (sofN Q b) h1 ?_
 exact Cg.eq (Nat.mod_lt _ (by omega)) h1 (((Cg.of_eq (Int.natCast_emod _ _)).trans (Cg.emod Q _)).trans h2)
theorem U.of_gcd {Q A:Nat} (h1:1<Q) (h:Nat.gcd A Q=1):U Q (A:Int):=by
 obtain ⟨V,_,hV⟩:=inv_there A Q h1 h
 exact ⟨(V:Int),by rw [← Int.natCast_mul];exact ((Cg.emod Q _).symm.trans (Cg.of_eq (by rw [← Int.natCast_emod,hV];rfl)))⟩

/-- a polynomial's value -/
def evZ:List Int→Int→Int
 | [],_=>0
 | c::p,x=>c+x*evZ p x
def zs (p:List Nat):List Int:=List.map (fun n:Nat=>(n:Int)) p
theorem zs_len (p:List Nat):(zs p).length=p.length:=by simp [zs]
theorem zs_get {p:List Nat} {i:Nat} (h:i<p.length):(zs p)[i]'(by rw [zs_len];exact h)=(p[i]:Int):=by simp [zs]
theorem evZ_app:∀ (p q:List Int) (x:Int),evZ (p++q) x=evZ p x+x^p.length*evZ q x
 | [],q,x=>by simp [evZ]
 | c::p,q,x=>by simp only [List.cons_append,evZ,evZ_app p q x,List.length_cons,Int.pow_succ];grind
theorem evZ_zero:∀ (p:List Int) (x:Int),(∀ c∈p,c=0)→evZ p x=0
 | [],_,_=>rfl
 | c::p,x,h=>by simp [evZ,evZ_zero p x (fun d hd=>h d (List.mem_cons_of_mem _ hd)),h c List.mem_cons_self]
/-- p less q -/
def subZ:List Int→List Int→List Int
 | [],_=>[]
 | p,[]=>p
 | c::p,d::q=>(c-d)::subZ p q
/-- p divided by X less a,and what is left -/
def syn (a:Int):List Int→List Int × Int
 | []=>([],0)
 | [c]=>([],c)
 | c::d::p=>((syn a (d::p)).2::(syn a (d::p)).1,c+a*(syn a (d::p)).2)
/-- p,and so many times o -/
def addT (Q:Nat):List Nat→List Nat→Nat→List Nat
 | [],_,_=>[]
 | p,[],_=>p
 | c::p,d::o,t=>(d*t%Q+c)%Q::addT Q p o t
theorem addT_len (Q:Nat):∀ (p o:List Nat) (t:Nat),(addT Q p o t).length=p.length
 | [],_,_=>rfl
 | _::_,[],_=>rfl
 | c::p,d::o,t=>by simp [addT,addT_len Q p o t]
theorem addT_lt {Q:Nat} (h:1<Q):∀ (p o:List Nat) (t:Nat),(∀ c∈p,c<Q)→∀ c∈addT Q p o t,c<Q
 | [],_,_,_,c,hc=>by cases hc
 | e::p,[],_,hp,c,hc=>hp c hc
 | e::p,d::o,t,hp,c,hc=>by
  rcases List.mem_cons.1 hc with rfl | hc
  ·exact Nat.mod_lt _ (by omega)
  ·exact addT_lt h p o t (fun c hc=>hp c (List.mem_cons_of_mem _ hc)) c hc
theorem addT_ev {Q:Nat}:∀ (p o:List Nat) (t:Nat) (x:Int),o.length≤p.length→Cg Q (evZ (zs (addT Q p o t)) x) (evZ (zs p) x+(t:Int)*evZ (zs o) x)
 | [],o,t,x,hl=>by rw [List.length_eq_zero_iff.1 (Nat.le_zero.1 hl)];exact Cg.of_eq (by simp [addT,zs,evZ])
 | e::p,[],t,x,_=>Cg.of_eq (by simp [addT,zs,evZ])
 | c::p,d::o,t,x,hl=>by
  have h:=addT_ev (Q:=Q) p o t x (by simpa using hl)
  have h1:Cg Q (((d*t%Q+c)%Q:Nat):Int) ((d:Int)*(t:Int)+(c:Int)):=by
   rw [Int.natCast_emod,Int.natCast_add,Int.natCast_emod,Int.natCast_mul]
   exact (Cg.emod Q _).trans ((Cg.emod Q _).add (Cg.refl Q _))
  simp only [addT,zs,List.map_cons,evZ] at h ⊢
  exact (h1.add (Cg.mulL x h)).trans (Cg.of_eq (by grind))
/-- the coefficients behind o's stay -/
theorem addT_far (Q:Nat):∀ (p o:List Nat) (t i:Nat),o.length≤i→(addT Q p o t)[i]? = p[i]?
 | [],_,_,_,_=>rfl
 | _::_,[],_,_,_=>rfl
 | c::p,d::o,t,0,h=>by simp at h
 | c::p,d::o,t,i+1,h=>by simp only [addT,List.getElem?_cons_succ];exact addT_far Q p o t i (by simpa using h)
/-- a less each of these,multiplied -/
def prZ (a:Int):List Int→Int
 | []=>1
 | y::l=>(a-y)*prZ a l
theorem prZ_app (a:Int):∀ (l m:List Int),prZ a (l++m)=prZ a l*prZ a m
 | [],m=>by simp [prZ]
 | y::l,m=>by simp only [List.cons_append,prZ,prZ_app a l m];grind
theorem prZ_unit {Q:Nat} {a:Int}:∀ {l:List Int},U Q (prZ a l)→∀ y∈l,U Q (a-y)
 | [],_,y,h=>by cases h
 | z::l,h,y,hy=>by
  rcases List.mem_cons.1 hy with rfl | hy
  ·exact U.left h
  ·exact prZ_unit (U.right h) y hy
theorem prZ_units {Q:Nat} {a:Int}:∀ {l:List Int},(∀ y∈l,U Q (a-y))→U Q (prZ a l)
 | [],_=>U.one Q
 | z::l,h=>(h z List.mem_cons_self).mul (prZ_units fun y hy=>h y (List.mem_cons_of_mem _ hy))
theorem prZ_mem {a:Int}:∀ {l:List Int},a∈l→prZ a l=0
 | [],h=>by cases h
 | y::l,h=>by
  rcases List.mem_cons.1 h with rfl | h
  ·simp [prZ]
  ·simp [prZ,prZ_mem h]
/-- the nought behind some points -/
def nz (Q:Nat) (p:List Nat) (x:Nat):List Nat:=addT Q (0::p) p (sofN Q (-(x:Int)))
theorem nz_len (Q:Nat) (p:List Nat) (x:Nat):(nz Q p x).length=p.length+1:=by simp [nz,addT_len]
theorem nz_ev {Q:Nat} (h:1<Q) (p:List Nat) (x:Nat) (y:Int):Cg Q (evZ (zs (nz Q p x)) y) ((y-(x:Int))*evZ (zs p) y):=by
 refine (addT_ev (0::p) p _ y (by simp)).trans ?_
 have h1:evZ (zs (0::p)) y=y*evZ (zs p) y:=by simp [zs,evZ]
 rw [h1]
 exact ((Cg.refl Q _).add ((sof_cg h (-(x:Int))).mul (Cg.refl Q (evZ (zs p) y)))).trans (Cg.of_eq (by grind))
theorem nz_lt {Q:Nat} (h:1<Q) {p:List Nat} (x:Nat) (hp:∀ c∈p,c<Q):∀ c∈nz Q p x,c<Q:=
 addT_lt h _ _ _ fun c hc=>by
  rcases List.mem_cons.1 hc with rfl | hc
  ·omega
  ·exact hp c hc
/-- where Newton's way stands behind i points -/
structure Nw (Q:Nat) (xs vs:List Nat) (i:Nat) (p o:List Nat):Prop where
 lp:p.length=xs.length
 lo:o.length=i+1
 bp:∀ c∈p,c<Q
 bo:∀ c∈o,c<Q
 far:∀ j,i≤j→j<p.length→p[j]? = some 0
 ev:∀ k (h:k<xs.length),k<i→Cg Q (evZ (zs p) (xs[k]:Int)) ((vs.getD k 0:Nat):Int)
 no:∀ y,Cg Q (evZ (zs o) y) (prZ y ((zs xs).take i))
 un:((zs xs).take i).Pairwise fun a b=>U Q (b-a)
theorem Nw.start {Q:Nat} (h:1<Q) (xs vs:List Nat):Nw Q xs vs 0 (List.replicate xs.length 0) [1]:=by
 refine ⟨by simp,rfl,fun c hc=>?_,fun c hc=>?_,fun j _ hj=>?_,fun k _ h=>absurd h (Nat.not_lt_zero _),fun y=>?_,?_⟩
 ·rw [List.eq_of_mem_replicate hc];omega
 ·rw [List.mem_singleton.1 hc];exact h
 ·rw [List.getElem?_replicate,if_pos (by simpa using hj)]
 ·exact Cg.of_eq (by simp [zs,evZ,prZ])
 ·simp
theorem evZ_take {p:List Nat} {i:Nat} (h:∀ j,i≤j→j<p.length→p[j]? = some 0) (x:Int):evZ (zs (p.take i)) x=evZ (zs p) x:=by
 have e:zs p=zs (p.take i)++zs (p.drop i):=by unfold zs;rw [← List.map_append,List.take_append_drop]
 have e2:=evZ_zero (zs (p.drop i)) x fun c hc=>by
  obtain ⟨n,hn,rfl⟩:=List.mem_map.1 hc
  obtain ⟨j,hj,rfl⟩:=List.getElem_of_mem hn
  rw [List.length_drop] at hj
  have:=h (i+j) (by omega) (by omega)
  rw [List.getElem_drop]
  rw [List.getElem?_eq_getElem (by omega)] at this
  rw [Option.some.inj this];rfl
 rw [e,evZ_app,e2,Int.mul_zero,Int.add_zero]
theorem Nw.step {Q:Nat} (h:1<Q) {xs vs:List Nat} {i:Nat} {p o:List Nat} (N:Nw Q xs vs i p o) (hi:i<xs.length) {t:Nat}
  (hu:U Q (evZ (zs o) (xs[i]:Int))) (ht:Cg Q ((t:Int)*evZ (zs o) (xs[i]:Int)) (((vs.getD i 0:Nat):Int)-evZ (zs (p.take i)) (xs[i]:Int))):Nw Q xs vs (i+1) (addT Q p o t) (nz Q o xs[i]):=by
 have hol:o.length≤p.length:=by rw [N.lo,N.lp];omega
 have htk:(zs xs).take (i+1)=(zs xs).take i++[(xs[i]:Int)]:=by rw [List.take_succ_eq_append_getElem (by rw [zs_len];exact hi),zs_get hi]
 have hno:=N.no (xs[i]:Int)
 refine ⟨by rw [addT_len,N.lp],by rw [nz_len,N.lo],addT_lt h _ _ _ N.bp,nz_lt h _ N.bo,fun j h1 h2=>?_,fun k hk h1=>?_,fun y=>?_,?_⟩
 ·rw [addT_len] at h2
  rw [addT_far Q p o t j (by rw [N.lo];omega)]
  exact N.far j (by omega) h2
 ·refine (addT_ev p o t _ hol).trans ?_
  by_cases e:k=i
  ·subst e
   refine ((Cg.refl Q _).add ht).trans (Cg.of_eq ?_)
   rw [evZ_take N.far];omega
  ·have hk2:k<i:=by omega
   have h2:=N.ev k hk hk2
   have h3:Cg Q (evZ (zs o) (xs[k]:Int)) 0:=(N.no _).trans (Cg.of_eq (prZ_mem (by
    rw [List.mem_take_iff_getElem]
    exact ⟨k,by rw [zs_len];omega,zs_get hk⟩)))
   exact (h2.add (Cg.mulL _ h3)).trans (Cg.of_eq (by omega))
 ·refine (nz_ev h o xs[i] y).trans ?_
  rw [htk,prZ_app]
  exact (Cg.mulL _ (N.no y)).trans (Cg.of_eq (by simp only [prZ];grind))
 ·rw [htk,List.pairwise_append]
  refine ⟨N.un,by simp,fun a ha b hb=>?_⟩
  rw [List.mem_singleton.1 hb]
  exact prZ_unit (U.cg hno hu) a ha
/-- where one has no inverse,not each two points' difference has one -/
theorem Nw.none {Q:Nat} {xs vs:List Nat} {i:Nat} {p o:List Nat} (N:Nw Q xs vs i p o) (hi:i<xs.length) (hu:¬ U Q (evZ (zs o) (xs[i]:Int))):¬ (zs xs).Pairwise fun a b=>U Q (b-a):=by
 intro h
 refine hu (U.cg (N.no _).symm (prZ_units fun y hy=>?_))
 have e:zs xs=(zs xs).take i++(zs xs).drop i:=(List.take_append_drop _ _).symm
 rw [e,List.pairwise_append] at h
 refine h.2.2 y hy _ ?_
 rw [List.mem_drop_iff_getElem]
 exact ⟨0,by rw [zs_len];omega,by rw [zs_get (by omega)];simp⟩
end Go.Proofs.YtlphnfajhpkleaaDoor
