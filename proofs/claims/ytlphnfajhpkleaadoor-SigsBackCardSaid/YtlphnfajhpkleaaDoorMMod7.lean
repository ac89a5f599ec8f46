/-
 mods.raise: a power,by either way.
-/
import Derived.Test.YtlphnfajhpkleaaDoorMBehN
import Derived.Test.YtlphnfajhpkleaaDoorMMod6
import Derived.Test.YtlphnfajhpkleaaDoorMSmall
namespace Go.Proofs.YtlphnfajhpkleaaDoor
open Go.RowKit
set_option linter.unusedSimpArgs false
set_option linter.unusedVariables false
attribute [local go_sem ↓] Go.wp_at_zero Go.wp_at_succ

theorem pw_square (A M k:Nat):(A^k%M)*(A^k%M)%M=A^(2*k)%M:=by
 rw [← Nat.mul_mod,← Nat.pow_add];congr 2;omega
theorem pw_more (A M k:Nat) (hA:A<M):(A^k%M)*A%M=A^(k+1)%M:=by
 rw [Nat.pow_succ,Nat.mul_mod (A^k) A,Nat.mod_eq_of_lt hA]
theorem pw_bit (A M N j:Nat) (h:N/2^j%2=0):(A^(N/2^(j+1))%M)*(A^(N/2^(j+1))%M)%M=A^(N/2^j)%M:=by
 rw [pw_square,← show N/2^j=2*(N/2^(j+1)) from by rw [wide_half N j,h,Nat.add_zero]]
theorem pw_bit1 (A M N j:Nat) (hA:A<M) (h:N/2^j%2=1):(A^(N/2^(j+1))%M)*(A^(N/2^(j+1))%M)%M*A%M=A^(N/2^j)%M:=by
 rw [pw_square,pw_more _ _ _ hA,← show N/2^j=2*(N/2^(j+1))+1 from by rw [wide_half N j,h]]

set_option maxRecDepth 100000 in
set_option maxHeartbeats 8000000 in
theorem raise_odd (A N M T:Nat) (st:Nat→Nat) (hA:A<M) (h1:1<M) (hM:M<2^256) (hN:N<2^256)
  (cW:∀ w,Calls Tryd.prog 49 #[num M] w fun e w'=>∃ gk gt gr:Nat,e=.returned (.agg #[.func (.func 77) #[] #[.pointer (some ⟨gk,0,none⟩)],.func (.func 78) #[] #[.pointer (some ⟨gr,0,none⟩)],.func (.func 79) #[] #[.pointer (some ⟨gr,0,none⟩)]])∧At w' gk 24 #[.int .u64 (wd M 0:Nat),.int .u64 (wd M 1:Nat),.int .u64 (wd M 2:Nat),.int .u64 (wd M 3:Nat)]∧At w' gt 24 #[.int .u64 (wd T 0:Nat),.int .u64 (wd T 1:Nat),.int .u64 (wd T 2:Nat),.int .u64 (wd T 3:Nat)]∧At w' gr 73 #[.func (.func 76) #[] #[.pointer (some ⟨gt,0,none⟩),.pointer (some ⟨gk,0,none⟩)]]∧w.heap.size≤gk∧w.heap.size≤gt∧w.heap.size≤gr∧Below w.heap.size w w')
  (cI:∀ x,x<M→∀ (gk gt gr:Nat) (w:World),At w gk 24 #[.int .u64 (wd M 0:Nat),.int .u64 (wd M 1:Nat),.int .u64 (wd M 2:Nat),.int .u64 (wd M 3:Nat)]→At w gt 24 #[.int .u64 (wd T 0:Nat),.int .u64 (wd T 1:Nat),.int .u64 (wd T 2:Nat),.int .u64 (wd T 3:Nat)]→At w gr 73 #[.func (.func 76) #[] #[.pointer (some ⟨gt,0,none⟩),.pointer (some ⟨gk,0,none⟩)]]→Calls Tryd.prog 77 #[num x,.pointer (some ⟨gk,0,none⟩)] w fun e w'=>e=.returned (num (st x))∧Below w.heap.size w w')
  (cT:∀ x y,x<M→y<M→∀ (gk gt gr:Nat) (w:World),At w gk 24 #[.int .u64 (wd M 0:Nat),.int .u64 (wd M 1:Nat),.int .u64 (wd M 2:Nat),.int .u64 (wd M 3:Nat)]→At w gt 24 #[.int .u64 (wd T 0:Nat),.int .u64 (wd T 1:Nat),.int .u64 (wd T 2:Nat),.int .u64 (wd T 3:Nat)]→At w gr 73 #[.func (.func 76) #[] #[.pointer (some ⟨gt,0,none⟩),.pointer (some ⟨gk,0,none⟩)]]→Calls Tryd.prog 79 #[num (st x),num (st y),.pointer (some ⟨gr,0,none⟩)] w fun e w'=>e=.returned (num (st (x*y%M)))∧Below w.heap.size w w')
  (cB:∀ x,x<M→∀ (gk gt gr:Nat) (w:World),At w gk 24 #[.int .u64 (wd M 0:Nat),.int .u64 (wd M 1:Nat),.int .u64 (wd M 2:Nat),.int .u64 (wd M 3:Nat)]→At w gt 24 #[.int .u64 (wd T 0:Nat),.int .u64 (wd T 1:Nat),.int .u64 (wd T 2:Nat),.int .u64 (wd T 3:Nat)]→At w gr 73 #[.func (.func 76) #[] #[.pointer (some ⟨gt,0,none⟩),.pointer (some ⟨gk,0,none⟩)]]→Calls Tryd.prog 78 #[num (st x),.pointer (some ⟨gr,0,none⟩)] w fun e w'=>e=.returned (num x)∧Below w.heap.size w w')
  (w:World):Calls Tryd.prog 36 #[num A,num N,num M] w fun e w'=>e=.returned (num (A^N%M))∧Below w.heap.size w w':=by
 have HW:=Lib.hid cW;have HT:=Lib.hid cT;have HB:=Lib.hid cB
 have hM0:0<M:=by omega
 obtain ⟨fa,hfa⟩:∃ fa,fa=st A:=⟨_,rfl⟩
 obtain ⟨f1,hf1⟩:∃ f1,f1=st 1:=⟨_,rfl⟩
 obtain ⟨V,hV⟩:∃ V,V=A^N%M:=⟨_,rfl⟩
 obtain ⟨m,hm⟩:∃ m,Go.bitLen N=m:=⟨_,rfl⟩
 have I1:=cI A hA
 have I2:=cI 1 h1
 have IB:=bits_any N hN
 have hm256:m≤256:=by rw [← hm];exact bl_le' N hN
 have hNm:N<2^m:=by rw [← hm];exact (Go.bitLen_spec N).1
 rw [hm] at IB
 rw [← hfa] at I1
 rw [← hf1] at I2
 rw [← hV]
 have IO:=of_any 1 (by decide)
 have HI1:=Lib.hid I1;have HI2:=Lib.hid I2;have HIB:=Lib.hid IB;have HIO:=Lib.hid IO;have HFA:=Lib.hid hfa;have HF1:=Lib.hid hf1;have HV:=Lib.hid hV;have HNM:=Lib.hid hNm
 have HA:=Lib.hid hA;have HM0:=Lib.hid hM0;have HN:=Lib.hid hN;have H1:=Lib.hid h1
 clear cW cT cB cI I1 I2 IB IO hfa hf1 hV hNm hm hA hM0 hN h1 hM
 go_enter Tryd.func36,Tryd.ntmps36
 go_wp2_with fail
 have BW:=Lib.hid (Below.refl w.heap.size w)
 have Eo:w.heap.size≤w.heap.size+1+1+1:=by have:=BW.out.size;omega
 have Dao:w.heap.size≠w.heap.size+1+1+1:=by omega
 have Dno:w.heap.size+1≠w.heap.size+1+1+1:=by omega
 have Dmo:w.heap.size+1+1≠w.heap.size+1+1+1:=by omega
 generalize hW1:((((w.alloc (.cells #[.int .u64 (wd A 0:Nat),.int .u64 (wd A 1:Nat),.int .u64 (wd A 2:Nat),.int .u64 (wd A 3:Nat)] 24)).alloc (.cells #[.int .u64 (wd N 0:Nat),.int .u64 (wd N 1:Nat),.int .u64 (wd N 2:Nat),.int .u64 (wd N 3:Nat)] 24)).alloc (.cells #[.int .u64 (wd M 0:Nat),.int .u64 (wd M 1:Nat),.int .u64 (wd M 2:Nat),.int .u64 (wd M 3:Nat)] 24)).alloc (.cells #[.int .u64 0,.int .u64 0,.int .u64 0,.int .u64 0] 24))=W1 at *
 have Na:At W1 (w.heap.size) _ _:=at_of hW1 ((((At.at_ _ _ _ _ (by simp)).alloc _).alloc _).alloc _)
 have Nn:At W1 (w.heap.size+1) _ _:=at_of hW1 (((At.at_ _ _ _ _ (by simp)).alloc _).alloc _)
 have Nm:At W1 (w.heap.size+1+1) _ _:=at_of hW1 ((At.at_ _ _ _ _ (by simp)).alloc _)
 have No:At W1 (w.heap.size+1+1+1) _ _:=at_of hW1 (At.at_ _ _ _ _ (by simp))
 have NB:=gr_of hW1 (gr_alloc (gr_alloc (gr_alloc (gr_alloc BW.out _) _) _) _)
 clear hW1 BW 
 generalize w.heap.size+1+1+1=go at *
 generalize w.heap.size+1+1=gm at *
 generalize w.heap.size+1=gn at *
 obtain ⟨ga,hg0⟩:∃ g,g=w.heap.size:=⟨_,rfl⟩
 rw [← hg0] at Na ⊢
 rw [← hg0] at Dao
 clear hg0
 have Fa:=Lib.hid Na
 have Fn:=Lib.hid Nn
 have Fm:=Lib.hid Nm
 have Fo:=Lib.hid No
 have BW:=Lib.hid NB
 clear NB Na Nn Nm No
 refine (HW.out _).mono ?_
 rintro e v2 ⟨gk,gt,gr,rfl,Nk,Nt,Nr,Zk,Zt,Zr,z2⟩
 have Dak:ga≠gk:=by have:=Fa.out.lt;omega
 have Dnk:gn≠gk:=by have:=Fn.out.lt;omega
 have Dmk:gm≠gk:=by have:=Fm.out.lt;omega
 have Dok:go≠gk:=by have:=Fo.out.lt;omega
 have Ek:w.heap.size≤gk:=Nat.le_trans BW.out.size Zk
 have Dat:ga≠gt:=by have:=Fa.out.lt;omega
 have Dnt:gn≠gt:=by have:=Fn.out.lt;omega
 have Dmt:gm≠gt:=by have:=Fm.out.lt;omega
 have Dot:go≠gt:=by have:=Fo.out.lt;omega
 have Et:w.heap.size≤gt:=Nat.le_trans BW.out.size Zt
 have Dar:ga≠gr:=by have:=Fa.out.lt;omega
 have Dnr:gn≠gr:=by have:=Fn.out.lt;omega
 have Dmr:gm≠gr:=by have:=Fm.out.lt;omega
 have Dor:go≠gr:=by have:=Fo.out.lt;omega
 have Er:w.heap.size≤gr:=Nat.le_trans BW.out.size Zr
 have Fa:=Lib.hid (Fa.out.on z2)
 have Fn:=Lib.hid (Fn.out.on z2)
 have Fm:=Lib.hid (Fm.out.on z2)
 have Fo:=Lib.hid (Fo.out.on z2)
 have Fk:=Lib.hid Nk
 have Ft:=Lib.hid Nt
 have Fr:=Lib.hid Nr
 have NB:=Lib.hid (bel_tr BW.out z2)
 clear BW z2 Nk Zk Nt Zt Nr Zr
 have BW:=NB
 clear NB
 go_wp2_with fail
 have Doy:go≠v2.heap.size:=by have:=Fo.out.lt;omega
 generalize hW3:(v2.alloc (.cells #[.func (.func 77) #[] #[.pointer (some ⟨gk,0,none⟩)],.func (.func 78) #[] #[.pointer (some ⟨gr,0,none⟩)],.func (.func 79) #[] #[.pointer (some ⟨gr,0,none⟩)]] 75))=W3 at *
 have Ny:At W3 (v2.heap.size) _ _:=at_of hW3 (At.at_ _ _ _ _ (by simp))
 have Na:=at_of hW3 (Fa.out.alloc _)
 have Nn:=at_of hW3 (Fn.out.alloc _)
 have Nm:=at_of hW3 (Fm.out.alloc _)
 have No:=at_of hW3 (Fo.out.alloc _)
 have Nk:=at_of hW3 (Fk.out.alloc _)
 have Nt:=at_of hW3 (Ft.out.alloc _)
 have Nr:=at_of hW3 (Fr.out.alloc _)
 have NB:=gr_of hW3 (gr_alloc BW.out _)
 clear hW3 BW Fa Fn Fm Fo Fk Ft Fr
 generalize v2.heap.size=gy at *
 have Fa:=Lib.hid Na
 have Fn:=Lib.hid Nn
 have Fm:=Lib.hid Nm
 have Fo:=Lib.hid No
 have Fk:=Lib.hid Nk
 have Ft:=Lib.hid Nt
 have Fr:=Lib.hid Nr
 have Fy:=Lib.hid Ny
 have BW:=Lib.hid NB
 clear NB Na Nn Nm No Nk Nt Nr Ny
 try simp only [List.append_eq,List.cons_append,List.nil_append]
 refine wp_region_noPanic ?_
 refine wp_region_held_drew (S:=fun w'=>At w' gy 75 #[.func (.func 77) #[] #[.pointer (some ⟨gk,0,none⟩)],.func (.func 78) #[] #[.pointer (some ⟨gr,0,none⟩)],.func (.func 79) #[] #[.pointer (some ⟨gr,0,none⟩)]]) (by kernel_rfl) (Fy.out.drew) (fun _=>?_)
 refine wpAnyH_cores (fuel:=2) (⟨0,15,[],Kind.val (.pointer (some ⟨gy,0,none⟩)),true⟩::⟨1,16,[0],Kind.val (.func (.func 77) #[] #[.pointer (some ⟨gk,0,none⟩)]),true⟩::⟨2,17,[],Kind.val (.agg #[.int .u64 (wd A 0:Nat),.int .u64 (wd A 1:Nat),.int .u64 (wd A 2:Nat),.int .u64 (wd A 3:Nat)]),false⟩::⟨3,18,[1,2],Kind.val (.agg #[.int .u64 (wd fa 0:Nat),.int .u64 (wd fa 1:Nat),.int .u64 (wd fa 2:Nat),.int .u64 (wd fa 3:Nat)]),false⟩::⟨4,19,[],Kind.val (.pointer (some ⟨gy,0,none⟩)),true⟩::⟨5,20,[4],Kind.val (.func (.func 77) #[] #[.pointer (some ⟨gk,0,none⟩)]),true⟩::⟨6,21,[3],Kind.val (.agg #[.int .u64 (wd 1 0:Nat),.int .u64 (wd 1 1:Nat),.int .u64 (wd 1 2:Nat),.int .u64 (wd 1 3:Nat)]),false⟩::⟨7,22,[5,6],Kind.val (.agg #[.int .u64 (wd f1 0:Nat),.int .u64 (wd f1 1:Nat),.int .u64 (wd f1 2:Nat),.int .u64 (wd f1 3:Nat)]),false⟩::⟨8,8,[],Kind.cell W3.heap.size 24 #[.int .u64 0,.int .u64 0,.int .u64 0,.int .u64 0],false⟩::⟨9,9,[],Kind.cell W3.heap.size 24 #[.int .u64 0,.int .u64 0,.int .u64 0,.int .u64 0],false⟩::[]) _ _ W3 _ ?_ ?_ ?_ ?_ ?_ ?_ ?_ ?_ ?_ ?_ ?_
 ·rfl
 ·kernel_rfl
 ·exact of_decide_eq_true rfl
 ·(repeat refine all_cons ⟨_,rfl,rfl⟩ ?_);exact all_nil
 ·exact fun _ hb=>Fy.out.on hb
 ·exact (Below.refl _ _).drew
 ·kernel_rfl
 ·exact fun _ _ _ _ _ h=>h
 ·(repeat (refine all_cons ?_ ?_;rotate_left));exact all_nil
  ·exact core_held _ _ _ _ _ _ _ _ (by rfl) (by rfl) (ko 7) (fun ρ w hx _=>fieldWay0 _ _ _ _ _ _ ρ w gy hx)
  ·exact core_held _ _ _ _ _ _ _ _ (by rfl) (by rfl) (kc 0 15) (fun ρ w hx hs=>loadF1_run _ _ _ _ _ _ ρ w gy 0 _ hx (hs.cell 0))
  ·exact core_pureAs _ (by rfl)
  ·exact core_pureAs _ (by rfl)
  ·exact core_held _ _ _ _ _ _ _ _ (by rfl) (by rfl) (ko 7) (fun ρ w hx _=>fieldWay0 _ _ _ _ _ _ ρ w gy hx)
  ·exact core_held _ _ _ _ _ _ _ _ (by rfl) (by rfl) (kc 4 19) (fun ρ w hx hs=>loadF1_run _ _ _ _ _ _ ρ w gy 0 _ hx (hs.cell 0))
  ·exact core_pureAs _ (by rfl)
  ·exact core_pureAs _ (by rfl)
  ·exact core_pureAs _ (by rfl)
  ·exact core_pureAs _ (by rfl)
 ·(repeat (refine all_cons ?_ ?_;rotate_left));exact all_nil
  ·exact sA
  ·exact sA
  ·exact fun _=>core_load _ _ _ _ _ ga _ _ _ _ (by rfl) (by rfl) (ko 3) Fa.out
  ·exact fun _=>core_callV _ 77 _ _ (.tmp 16) #[.pointer (some ⟨gk,0,none⟩)] [.tmp 17] _ _ _ _ _ _ _ (by rfl) Tryd.func77 (by kernel_rfl) (by rfl) (by rfl) (kc 1 16) (.cons (kc 2 17) .nil) (by rfl) (fun w hb=>HI1.out _ _ _ _ (Fk.out.on hb) (Ft.out.on hb) (Fr.out.on hb))
  ·exact sA
  ·exact sA
  ·exact fun _=>core_call _ 30 _ _ [.const (.int .u64 1)] _ _ _ _ _ _ (by rfl) Tryd.func30 (by kernel_rfl) (by rfl) (by rfl) (.cons (known_const _) .nil) (HIO.out)
  ·exact fun _=>core_callV _ 77 _ _ (.tmp 20) #[.pointer (some ⟨gk,0,none⟩)] [.tmp 21] _ _ _ _ _ _ _ (by rfl) Tryd.func77 (by kernel_rfl) (by rfl) (by rfl) (kc 5 20) (.cons (kc 6 21) .nil) (by rfl) (fun w hb=>HI2.out _ _ _ _ (Fk.out.on hb) (Ft.out.on hb) (Fr.out.on hb))
  ·exact fun _=>core_alloc _ _ _ _ _ (by rfl) (by rfl) (Nat.le_refl _)
  ·exact fun _=>core_alloc _ _ _ _ _ (by rfl) (by rfl) (Nat.le_refl _)
 intro vs y4 hc
 obtain ⟨vv0,vv1,vv2,vv3,vv4,vv5,vv6,vv7,vv8,vv9,rfl⟩:=len10 vs hc.lv
 have qq0:=okv hc 0
 have qq1:=okv hc 1
 have qq2:=okv hc 2
 have qq3:=okv hc 3
 have qq4:=okv hc 4
 have qq5:=okv hc 5
 have qq6:=okv hc 6
 have qq7:=okv hc 7
 obtain ⟨xx,hx,gf,hv,Ef,Af⟩:=hc.ok 8 _ rfl rfl
 have qq8:vv8=.pointer (some ⟨gf,0,none⟩):=(Option.some.inj (show some vv8=some xx from hx)).trans hv
 clear hx hv
 obtain ⟨xx,hx,gp,hv,Ep,Ap⟩:=hc.ok 9 _ rfl rfl
 have qq9:vv9=.pointer (some ⟨gp,0,none⟩):=(Option.some.inj (show some vv9=some xx from hx)).trans hv
 clear hx hv
 have Dfp:gf≠gp:=fun e=>hc.far 8 9 _ _ rfl rfl rfl rfl (by decide) rfl rfl (by show some vv8=some vv9;rw [qq8,qq9,e])
 have BZ:=hc.bel
 clear hc
 have Na:=Fa.out.on BZ
 have Nn:=Fn.out.on BZ
 have Nm:=Fm.out.on BZ
 have No:=Fo.out.on BZ
 have Nk:=Fk.out.on BZ
 have Nt:=Ft.out.on BZ
 have Nr:=Fr.out.on BZ
 have Ny:=Fy.out.on BZ
 have Daf:ga≠gf:=by have:=Fa.out.lt;omega
 have Dnf:gn≠gf:=by have:=Fn.out.lt;omega
 have Dmf:gm≠gf:=by have:=Fm.out.lt;omega
 have Dof:go≠gf:=by have:=Fo.out.lt;omega
 have Dkf:gk≠gf:=by have:=Fk.out.lt;omega
 have Dtf:gt≠gf:=by have:=Ft.out.lt;omega
 have Drf:gr≠gf:=by have:=Fr.out.lt;omega
 have Dyf:gy≠gf:=by have:=Fy.out.lt;omega
 have Dap:ga≠gp:=by have:=Fa.out.lt;omega
 have Dnp:gn≠gp:=by have:=Fn.out.lt;omega
 have Dmp:gm≠gp:=by have:=Fm.out.lt;omega
 have Dop:go≠gp:=by have:=Fo.out.lt;omega
 have Dkp:gk≠gp:=by have:=Fk.out.lt;omega
 have Dtp:gt≠gp:=by have:=Ft.out.lt;omega
 have Drp:gr≠gp:=by have:=Fr.out.lt;omega
 have Dyp:gy≠gp:=by have:=Fy.out.lt;omega
 have EEp:w.heap.size≤gp:=Nat.le_trans BW.out.size Ep
 have HSZ4:=BW.out.size
 have NB:=bel_tr BW.out BZ
 clear BW BZ Fa Fn Fm Fo Fk Ft Fr Fy
 subst qq0 qq1 qq2 qq3 qq4 qq5 qq6 qq7 qq8 qq9
 simp only [List.map_cons,List.map_nil,over,Act.put,List.setIfInBounds_toArray,List.set_cons_zero,List.set_cons_succ]
 have OLD:=Af
 replace Na:=put4_far Na Daf (.int .u64 (wd fa 0:Nat)) (.int .u64 (wd fa 1:Nat)) (.int .u64 (wd fa 2:Nat)) (.int .u64 (wd fa 3:Nat))
 replace Nn:=put4_far Nn Dnf (.int .u64 (wd fa 0:Nat)) (.int .u64 (wd fa 1:Nat)) (.int .u64 (wd fa 2:Nat)) (.int .u64 (wd fa 3:Nat))
 replace Nm:=put4_far Nm Dmf (.int .u64 (wd fa 0:Nat)) (.int .u64 (wd fa 1:Nat)) (.int .u64 (wd fa 2:Nat)) (.int .u64 (wd fa 3:Nat))
 replace No:=put4_far No Dof (.int .u64 (wd fa 0:Nat)) (.int .u64 (wd fa 1:Nat)) (.int .u64 (wd fa 2:Nat)) (.int .u64 (wd fa 3:Nat))
 replace Nk:=put4_far Nk Dkf (.int .u64 (wd fa 0:Nat)) (.int .u64 (wd fa 1:Nat)) (.int .u64 (wd fa 2:Nat)) (.int .u64 (wd fa 3:Nat))
 replace Nt:=put4_far Nt Dtf (.int .u64 (wd fa 0:Nat)) (.int .u64 (wd fa 1:Nat)) (.int .u64 (wd fa 2:Nat)) (.int .u64 (wd fa 3:Nat))
 replace Nr:=put4_far Nr Drf (.int .u64 (wd fa 0:Nat)) (.int .u64 (wd fa 1:Nat)) (.int .u64 (wd fa 2:Nat)) (.int .u64 (wd fa 3:Nat))
 replace Ny:=put4_far Ny Dyf (.int .u64 (wd fa 0:Nat)) (.int .u64 (wd fa 1:Nat)) (.int .u64 (wd fa 2:Nat)) (.int .u64 (wd fa 3:Nat))
 replace Af:=put4_at Af (.int .u64 (wd fa 0:Nat)) (.int .u64 (wd fa 1:Nat)) (.int .u64 (wd fa 2:Nat)) (.int .u64 (wd fa 3:Nat))
 replace Ap:=put4_far Ap Dfp.symm (.int .u64 (wd fa 0:Nat)) (.int .u64 (wd fa 1:Nat)) (.int .u64 (wd fa 2:Nat)) (.int .u64 (wd fa 3:Nat))
 replace NB:=put4_below NB (Nat.le_trans HSZ4 Ef) (.int .u64 (wd fa 0:Nat)) (.int .u64 (wd fa 1:Nat)) (.int .u64 (wd fa 2:Nat)) (.int .u64 (wd fa 3:Nat))
 refine store_one (i:=10) _ _ _ _ _ gf _ _ _ _ _ _ _ _ (by kernel_rfl) (by rfl) (by rfl) (by rfl) OLD (Ny) ?_
 clear OLD
 generalize (put4 y4 gf (.int .u64 (wd fa 0:Nat)) (.int .u64 (wd fa 1:Nat)) (.int .u64 (wd fa 2:Nat)) (.int .u64 (wd fa 3:Nat)))=y4_10 at *
 have OLD:=Ap
 replace Na:=put4_far Na Dap (.int .u64 (wd f1 0:Nat)) (.int .u64 (wd f1 1:Nat)) (.int .u64 (wd f1 2:Nat)) (.int .u64 (wd f1 3:Nat))
 replace Nn:=put4_far Nn Dnp (.int .u64 (wd f1 0:Nat)) (.int .u64 (wd f1 1:Nat)) (.int .u64 (wd f1 2:Nat)) (.int .u64 (wd f1 3:Nat))
 replace Nm:=put4_far Nm Dmp (.int .u64 (wd f1 0:Nat)) (.int .u64 (wd f1 1:Nat)) (.int .u64 (wd f1 2:Nat)) (.int .u64 (wd f1 3:Nat))
 replace No:=put4_far No Dop (.int .u64 (wd f1 0:Nat)) (.int .u64 (wd f1 1:Nat)) (.int .u64 (wd f1 2:Nat)) (.int .u64 (wd f1 3:Nat))
 replace Nk:=put4_far Nk Dkp (.int .u64 (wd f1 0:Nat)) (.int .u64 (wd f1 1:Nat)) (.int .u64 (wd f1 2:Nat)) (.int .u64 (wd f1 3:Nat))
 replace Nt:=put4_far Nt Dtp (.int .u64 (wd f1 0:Nat)) (.int .u64 (wd f1 1:Nat)) (.int .u64 (wd f1 2:Nat)) (.int .u64 (wd f1 3:Nat))
 replace Nr:=put4_far Nr Drp (.int .u64 (wd f1 0:Nat)) (.int .u64 (wd f1 1:Nat)) (.int .u64 (wd f1 2:Nat)) (.int .u64 (wd f1 3:Nat))
 replace Ny:=put4_far Ny Dyp (.int .u64 (wd f1 0:Nat)) (.int .u64 (wd f1 1:Nat)) (.int .u64 (wd f1 2:Nat)) (.int .u64 (wd f1 3:Nat))
 replace Af:=put4_far Af Dfp (.int .u64 (wd f1 0:Nat)) (.int .u64 (wd f1 1:Nat)) (.int .u64 (wd f1 2:Nat)) (.int .u64 (wd f1 3:Nat))
 replace Ap:=put4_at Ap (.int .u64 (wd f1 0:Nat)) (.int .u64 (wd f1 1:Nat)) (.int .u64 (wd f1 2:Nat)) (.int .u64 (wd f1 3:Nat))
 replace NB:=put4_below NB (Nat.le_trans HSZ4 Ep) (.int .u64 (wd f1 0:Nat)) (.int .u64 (wd f1 1:Nat)) (.int .u64 (wd f1 2:Nat)) (.int .u64 (wd f1 3:Nat))
 refine store_one (i:=11) _ _ _ _ _ gp _ _ _ _ _ _ _ _ (by kernel_rfl) (by rfl) (by rfl) (by rfl) OLD (Ny) ?_
 clear OLD
 generalize (put4 y4_10 gp (.int .u64 (wd f1 0:Nat)) (.int .u64 (wd f1 1:Nat)) (.int .u64 (wd f1 2:Nat)) (.int .u64 (wd f1 3:Nat)))=y4_11 at *
 refine wpAnyH_done (by kernel_rfl) ?_ _
 refine NoPanic.normal ?_
 have Fa:=Lib.hid Na
 have Fn:=Lib.hid Nn
 have Fm:=Lib.hid Nm
 have Fo:=Lib.hid No
 have Fk:=Lib.hid Nk
 have Ft:=Lib.hid Nt
 have Fr:=Lib.hid Nr
 have Fy:=Lib.hid Ny
 have Ff:=Lib.hid Af
 have Fp:=Lib.hid Ap
 have BW:=Lib.hid NB
 clear NB Na Nn Nm No Nk Nt Nr Ny Af Ap
 clear Ef
 clear Ep
 have Ep:=EEp
 clear HSZ4
 have Ln:=Fn.out.lt
 have cn0:=Fn.out.c0
 have cn1:=Fn.out.c1
 have cn2:=Fn.out.c2
 have cn3:=Fn.out.c3
 go_wp2_with fail
 clear Ln cn0 cn1 cn2 cn3
 refine (HIB.out _).mono ?_
 rintro e v5 ⟨rfl,z5⟩
 have Na:=Lib.hid (Fa.out.on z5)
 have Nn:=Lib.hid (Fn.out.on z5)
 have Nm:=Lib.hid (Fm.out.on z5)
 have No:=Lib.hid (Fo.out.on z5)
 have Nk:=Lib.hid (Fk.out.on z5)
 have Nt:=Lib.hid (Ft.out.on z5)
 have Nr:=Lib.hid (Fr.out.on z5)
 have Ny:=Lib.hid (Fy.out.on z5)
 have Nf:=Lib.hid (Ff.out.on z5)
 have Np:=Lib.hid (Fp.out.on z5)
 have NB:=Lib.hid (bel_tr BW.out z5)
 clear BW z5 Fa Fn Fm Fo Fk Ft Fr Fy Ff Fp
 have Fa:=Na
 have Fn:=Nn
 have Fm:=Nm
 have Fo:=No
 have Fk:=Nk
 have Ft:=Nt
 have Fr:=Nr
 have Fy:=Ny
 have Ff:=Nf
 have Fp:=Np
 have BW:=NB
 clear NB Na Nn Nm No Nk Nt Nr Ny Nf Np
 go_wp2_with fail
 go_loopw [27] (fun s wr=>∃ i X:Nat,i≤m∧s=.int .i64 (i:Nat)∧Hid (At wr ga 24 #[.int .u64 (wd A 0:Nat),.int .u64 (wd A 1:Nat),.int .u64 (wd A 2:Nat),.int .u64 (wd A 3:Nat)]∧At wr gn 24 #[.int .u64 (wd N 0:Nat),.int .u64 (wd N 1:Nat),.int .u64 (wd N 2:Nat),.int .u64 (wd N 3:Nat)]∧At wr gm 24 #[.int .u64 (wd M 0:Nat),.int .u64 (wd M 1:Nat),.int .u64 (wd M 2:Nat),.int .u64 (wd M 3:Nat)]∧At wr go 24 #[.int .u64 0,.int .u64 0,.int .u64 0,.int .u64 0]∧At wr gk 24 #[.int .u64 (wd M 0:Nat),.int .u64 (wd M 1:Nat),.int .u64 (wd M 2:Nat),.int .u64 (wd M 3:Nat)]∧At wr gt 24 #[.int .u64 (wd T 0:Nat),.int .u64 (wd T 1:Nat),.int .u64 (wd T 2:Nat),.int .u64 (wd T 3:Nat)]∧At wr gr 73 #[.func (.func 76) #[] #[.pointer (some ⟨gt,0,none⟩),.pointer (some ⟨gk,0,none⟩)]]∧At wr gy 75 #[.func (.func 77) #[] #[.pointer (some ⟨gk,0,none⟩)],.func (.func 78) #[] #[.pointer (some ⟨gr,0,none⟩)],.func (.func 79) #[] #[.pointer (some ⟨gr,0,none⟩)]]∧At wr gf 24 #[.int .u64 (wd fa 0:Nat),.int .u64 (wd fa 1:Nat),.int .u64 (wd fa 2:Nat),.int .u64 (wd fa 3:Nat)]∧At wr gp 24 #[.int .u64 (wd X 0:Nat),.int .u64 (wd X 1:Nat),.int .u64 (wd X 2:Nat),.int .u64 (wd X 3:Nat)]∧Below w.heap.size w wr∧X=st (A^(N/2^(m-i))%M))) (fun s _=>m-(intOf s).toNat)
 case atStart=>
  refine ⟨0,f1,by omega,rfl,Fa.out,Fn.out,Fm.out,Fo.out,Fk.out,Ft.out,Fr.out,Fy.out,Ff.out,Fp.out,BW.out,?_⟩
  rw [HF1.out,Nat.sub_zero,Nat.div_eq_of_lt HNM.out,Nat.pow_zero,Nat.mod_eq_of_lt H1.out]
 case round=>
  obtain ⟨i,X,hi,rfl,hM⟩:=hrel
  clear BW Fa Fn Fm Fo Fk Ft Fr Fy Ff Fp
  have Fa:=Lib.hid hM.out.1
  have Fn:=Lib.hid hM.out.2.1
  have Fm:=Lib.hid hM.out.2.2.1
  have Fo:=Lib.hid hM.out.2.2.2.1
  have Fk:=Lib.hid hM.out.2.2.2.2.1
  have Ft:=Lib.hid hM.out.2.2.2.2.2.1
  have Fr:=Lib.hid hM.out.2.2.2.2.2.2.1
  have Fy:=Lib.hid hM.out.2.2.2.2.2.2.2.1
  have Ff:=Lib.hid hM.out.2.2.2.2.2.2.2.2.1
  have Fp:=Lib.hid hM.out.2.2.2.2.2.2.2.2.2.1
  have BW:=Lib.hid hM.out.2.2.2.2.2.2.2.2.2.2.1
  have HX:=Lib.hid hM.out.2.2.2.2.2.2.2.2.2.2.2
  clear hM
  by_cases hlt:i<m
  ·obtain ⟨j,hj⟩:∃ j,m=i+1+j:=⟨m-i-1,by omega⟩
   have hgi:(m:Int)-1-(i:Int)=(j:Nat):=by omega
   have hi256:i≤255:=by omega
   have e1:m-i=j+1:=by omega
   have e2:m-(i+1)=j:=by omega
   have hx:=HX.out
   rw [e1] at hx
   have HX2:=Lib.hid hx
   have hb2:N/2^j%2=0∨N/2^j%2=1:=by omega
   have HE2:=Lib.hid e2;have HJ:=Lib.hid hj
   clear hx e1 e2 HX hj
   have hbt:bt N (j:Int)=N/2^j%2:=by unfold bt;rw [if_neg (by omega),Int.toNat_natCast]
   have CB:=bit_any N HN.out (j:Int)
   have hE:=Nat.mod_lt (A^(N/2^(j+1))) HM0.out
   have CT1:=HT.out _ _ hE hE
   rw [← HX2.out] at CT1
   rcases hb2 with hb | hb
   ·rw [hbt,hb] at CB
    have CB0:∀ w,Calls Tryd.prog 51 #[num N,.int .i64 (j:Nat)] w fun e w'=>e=.returned (.int .u64 0)∧Below w.heap.size w w':=fun w=>CB w
    obtain ⟨Y,hy⟩:∃ Y,Y=st ((A^(N/2^(j+1))%M)*(A^(N/2^(j+1))%M)%M):=⟨_,rfl⟩
    rw [← hy] at CT1
    rw [pw_bit A M N j hb] at hy
    have HCB:=Lib.hid CB0;have HC1:=Lib.hid CT1;have HY:=Lib.hid hy
    clear CB CB0 CT1 hy hb hbt hE
    have Ln:=Fn.out.lt
    have cn0:=Fn.out.c0
    have cn1:=Fn.out.c1
    have cn2:=Fn.out.c2
    have cn3:=Fn.out.c3
    go_wp2_with fail
    clear Ln cn0 cn1 cn2 cn3
    refine (HCB.out _).mono ?_
    rintro e v6 ⟨rfl,z6⟩
    have Na:=Lib.hid (Fa.out.on z6)
    have Nn:=Lib.hid (Fn.out.on z6)
    have Nm:=Lib.hid (Fm.out.on z6)
    have No:=Lib.hid (Fo.out.on z6)
    have Nk:=Lib.hid (Fk.out.on z6)
    have Nt:=Lib.hid (Ft.out.on z6)
    have Nr:=Lib.hid (Fr.out.on z6)
    have Ny:=Lib.hid (Fy.out.on z6)
    have Nf:=Lib.hid (Ff.out.on z6)
    have Np:=Lib.hid (Fp.out.on z6)
    have NB:=Lib.hid (bel_tr BW.out z6)
    clear BW z6 Fa Fn Fm Fo Fk Ft Fr Fy Ff Fp
    have Fa:=Na
    have Fn:=Nn
    have Fm:=Nm
    have Fo:=No
    have Fk:=Nk
    have Ft:=Nt
    have Fr:=Nr
    have Fy:=Ny
    have Ff:=Nf
    have Fp:=Np
    have BW:=NB
    clear NB Na Nn Nm No Nk Nt Nr Ny Nf Np
    go_wp2_with fail
    refine (gather0_odd gy gp gf gk gt gr X fa Y _ Dyp Dfp (fun v hk=>HC1.out _ _ _ _ (Fk.out.kept hk Dkp) (Ft.out.kept hk Dtp) (Fr.out.kept hk Drp))  Fy.out Fp.out Ff.out).mono ?_
    rintro e v7 ⟨rfl,Np,hk⟩
    have Na:=Lib.hid (Fa.out.kept hk Dap)
    have Nn:=Lib.hid (Fn.out.kept hk Dnp)
    have Nm:=Lib.hid (Fm.out.kept hk Dmp)
    have No:=Lib.hid (Fo.out.kept hk Dop)
    have Nk:=Lib.hid (Fk.out.kept hk Dkp)
    have Nt:=Lib.hid (Ft.out.kept hk Dtp)
    have Nr:=Lib.hid (Fr.out.kept hk Drp)
    have Ny:=Lib.hid (Fy.out.kept hk Dyp)
    have Nf:=Lib.hid (Ff.out.kept hk Dfp)
    have NB:=Lib.hid (Below.kept BW.out (Nat.le_refl _) hk Ep)
    clear BW hk Fa Fn Fm Fo Fk Ft Fr Fy Ff Fp
    have Fa:=Na
    have Fn:=Nn
    have Fm:=Nm
    have Fo:=No
    have Fk:=Nk
    have Ft:=Nt
    have Fr:=Nr
    have Fy:=Ny
    have Ff:=Nf
    have Fp:=Lib.hid Np
    have BW:=NB
    clear NB Na Nn Nm No Nk Nt Nr Ny Nf Np
    go_wp2_with fail
    go_roundw
    case rel=>
     have hj:=HJ.out
     have hE:Y=st (A^(N/2^(m-(i+1)))%M):=by rw [HE2.out];exact HY.out
     first
      | exact ⟨i+1,Y,by omega,by go_num,Fa.out,Fn.out,Fm.out,Fo.out,Fk.out,Ft.out,Fr.out,Fy.out,Ff.out,Fp.out,BW.out,hE⟩
      | ((repeat apply Exists.intro);exact ⟨⟨i+1,Y,by omega,by go_num,Fa.out,Fn.out,Fm.out,Fo.out,Fk.out,Ft.out,Fr.out,Fy.out,Ff.out,Fp.out,BW.out,hE⟩,rfl⟩)
    case measure=>(have hj:=HJ.out;simp [intOf];omega)
   ·rw [hbt,hb] at CB
    have CB0:∀ w,Calls Tryd.prog 51 #[num N,.int .i64 (j:Nat)] w fun e w'=>e=.returned (.int .u64 1)∧Below w.heap.size w w':=fun w=>CB w
    have CT2:=HT.out _ A (Nat.mod_lt ((A^(N/2^(j+1))%M)*(A^(N/2^(j+1))%M)) HM0.out) HA.out
    obtain ⟨Y,hy0⟩:∃ Y,Y=st ((A^(N/2^(j+1))%M)*(A^(N/2^(j+1))%M)%M):=⟨_,rfl⟩
    obtain ⟨Z,hy⟩:∃ Z,Z=st ((A^(N/2^(j+1))%M)*(A^(N/2^(j+1))%M)%M*A%M):=⟨_,rfl⟩
    rw [← hy0] at CT1
    rw [← hy,← hy0,← HFA.out] at CT2
    rw [pw_bit1 A M N j HA.out hb] at hy
    have HCB:=Lib.hid CB0;have HC1:=Lib.hid CT1;have HY:=Lib.hid hy
    have HC2:=Lib.hid CT2
    clear CB CB0 CT1 hy hb hbt hE CT2 hy0
    have Ln:=Fn.out.lt
    have cn0:=Fn.out.c0
    have cn1:=Fn.out.c1
    have cn2:=Fn.out.c2
    have cn3:=Fn.out.c3
    go_wp2_with fail
    clear Ln cn0 cn1 cn2 cn3
    refine (HCB.out _).mono ?_
    rintro e v6 ⟨rfl,z6⟩
    have Na:=Lib.hid (Fa.out.on z6)
    have Nn:=Lib.hid (Fn.out.on z6)
    have Nm:=Lib.hid (Fm.out.on z6)
    have No:=Lib.hid (Fo.out.on z6)
    have Nk:=Lib.hid (Fk.out.on z6)
    have Nt:=Lib.hid (Ft.out.on z6)
    have Nr:=Lib.hid (Fr.out.on z6)
    have Ny:=Lib.hid (Fy.out.on z6)
    have Nf:=Lib.hid (Ff.out.on z6)
    have Np:=Lib.hid (Fp.out.on z6)
    have NB:=Lib.hid (bel_tr BW.out z6)
    clear BW z6 Fa Fn Fm Fo Fk Ft Fr Fy Ff Fp
    have Fa:=Na
    have Fn:=Nn
    have Fm:=Nm
    have Fo:=No
    have Fk:=Nk
    have Ft:=Nt
    have Fr:=Nr
    have Fy:=Ny
    have Ff:=Nf
    have Fp:=Np
    have BW:=NB
    clear NB Na Nn Nm No Nk Nt Nr Ny Nf Np
    go_wp2_with fail
    refine (gather1_odd gy gp gf gk gt gr X fa Y Z _ Dyp Dfp (fun v hk=>HC1.out _ _ _ _ (Fk.out.kept hk Dkp) (Ft.out.kept hk Dtp) (Fr.out.kept hk Drp)) (fun v hk=>HC2.out _ _ _ _ (Fk.out.kept hk Dkp) (Ft.out.kept hk Dtp) (Fr.out.kept hk Drp)) Fy.out Fp.out Ff.out).mono ?_
    rintro e v7 ⟨rfl,Np,hk⟩
    have Na:=Lib.hid (Fa.out.kept hk Dap)
    have Nn:=Lib.hid (Fn.out.kept hk Dnp)
    have Nm:=Lib.hid (Fm.out.kept hk Dmp)
    have No:=Lib.hid (Fo.out.kept hk Dop)
    have Nk:=Lib.hid (Fk.out.kept hk Dkp)
    have Nt:=Lib.hid (Ft.out.kept hk Dtp)
    have Nr:=Lib.hid (Fr.out.kept hk Drp)
    have Ny:=Lib.hid (Fy.out.kept hk Dyp)
    have Nf:=Lib.hid (Ff.out.kept hk Dfp)
    have NB:=Lib.hid (Below.kept BW.out (Nat.le_refl _) hk Ep)
    clear BW hk Fa Fn Fm Fo Fk Ft Fr Fy Ff Fp
    have Fa:=Na
    have Fn:=Nn
    have Fm:=Nm
    have Fo:=No
    have Fk:=Nk
    have Ft:=Nt
    have Fr:=Nr
    have Fy:=Ny
    have Ff:=Nf
    have Fp:=Lib.hid Np
    have BW:=NB
    clear NB Na Nn Nm No Nk Nt Nr Ny Nf Np
    go_wp2_with fail
    go_roundw
    case rel=>
     have hj:=HJ.out
     have hE:Z=st (A^(N/2^(m-(i+1)))%M):=by rw [HE2.out];exact HY.out
     first
      | exact ⟨i+1,Z,by omega,by go_num,Fa.out,Fn.out,Fm.out,Fo.out,Fk.out,Ft.out,Fr.out,Fy.out,Ff.out,Fp.out,BW.out,hE⟩
      | ((repeat apply Exists.intro);exact ⟨⟨i+1,Z,by omega,by go_num,Fa.out,Fn.out,Fm.out,Fo.out,Fk.out,Ft.out,Fr.out,Fy.out,Ff.out,Fp.out,BW.out,hE⟩,rfl⟩)
    case measure=>(have hj:=HJ.out;simp [intOf];omega)
  ·have hz:¬ (i:Int)<(m:Int):=by omega
   have hv:A^(N/2^(m-i))%M=V:=by rw [show m-i=0 by omega,Nat.pow_zero,Nat.div_one,HV.out]
   have CB:=HB.out V (by rw [HV.out];exact Nat.mod_lt _ HM0.out)
   rw [← hv,← HX.out,hv] at CB
   have HCB:=Lib.hid CB
   clear CB hv
   have Ly:=Fy.out.lt
   have cy0:wr.cell? ⟨gy,0,none⟩=some (.func (.func 77) #[] #[.pointer (some ⟨gk,0,none⟩)]):=Fy.out.cell 0
   have cy1:wr.cell? ⟨gy,1,none⟩=some (.func (.func 78) #[] #[.pointer (some ⟨gr,0,none⟩)]):=Fy.out.cell 1
   have cy2:wr.cell? ⟨gy,2,none⟩=some (.func (.func 79) #[] #[.pointer (some ⟨gr,0,none⟩)]):=Fy.out.cell 2
   have Lp:=Fp.out.lt
   have cp0:=Fp.out.c0
   have cp1:=Fp.out.c1
   have cp2:=Fp.out.c2
   have cp3:=Fp.out.c3
   go_wp2_with fail
   clear Ly cy0 cy1 cy2 Lp cp0 cp1 cp2 cp3
   refine (HCB.out _ _ _ _ Fk.out Ft.out Fr.out).mono ?_
   rintro e v6 ⟨rfl,z6⟩
   have Na:=Lib.hid (Fa.out.on z6)
   have Nn:=Lib.hid (Fn.out.on z6)
   have Nm:=Lib.hid (Fm.out.on z6)
   have No:=Lib.hid (Fo.out.on z6)
   have Nk:=Lib.hid (Fk.out.on z6)
   have Nt:=Lib.hid (Ft.out.on z6)
   have Nr:=Lib.hid (Fr.out.on z6)
   have Ny:=Lib.hid (Fy.out.on z6)
   have Nf:=Lib.hid (Ff.out.on z6)
   have Np:=Lib.hid (Fp.out.on z6)
   have NB:=Lib.hid (bel_tr BW.out z6)
   clear BW z6 Fa Fn Fm Fo Fk Ft Fr Fy Ff Fp
   have Fa:=Na
   have Fn:=Nn
   have Fm:=Nm
   have Fo:=No
   have Fk:=Nk
   have Ft:=Nt
   have Fr:=Nr
   have Fy:=Ny
   have Ff:=Nf
   have Fp:=Np
   have BW:=NB
   clear NB Na Nn Nm No Nk Nt Nr Ny Nf Np
   have Lo:=Fo.out.lt
   have co0:=Fo.out.c0
   have co1:=Fo.out.c1
   have co2:=Fo.out.c2
   have co3:=Fo.out.c3
   have fo0:v6.frozen? ⟨go,0,none⟩=false:=Fo.out.frozen 0
   have fo1:v6.frozen? ⟨go,1,none⟩=false:=Fo.out.frozen 1
   have fo2:v6.frozen? ⟨go,2,none⟩=false:=Fo.out.frozen 2
   have fo3:v6.frozen? ⟨go,3,none⟩=false:=Fo.out.frozen 3
   go_wp2_with fail
   clear Lo co0 co1 co2 co3 fo0 fo1 fo2 fo3
   generalize hW7:((((v6.setCell ⟨go,0,none⟩ (.int .u64 (wd V 0:Nat))).setCell ⟨go,1,none⟩ (.int .u64 (wd V 1:Nat))).setCell ⟨go,2,none⟩ (.int .u64 (wd V 2:Nat))).setCell ⟨go,3,none⟩ (.int .u64 (wd V 3:Nat)))=W7 at *
   have Na:=at_of hW7 ((Fa.out).far4 Dao _ _ _ _)
   have Nn:=at_of hW7 ((Fn.out).far4 Dno _ _ _ _)
   have Nm:=at_of hW7 ((Fm.out).far4 Dmo _ _ _ _)
   have No:=at_of hW7 ((Fo.out).put4 _ _ _ _)
   have Nk:=at_of hW7 ((Fk.out).far4 Dok.symm _ _ _ _)
   have Nt:=at_of hW7 ((Ft.out).far4 Dot.symm _ _ _ _)
   have Nr:=at_of hW7 ((Fr.out).far4 Dor.symm _ _ _ _)
   have Ny:=at_of hW7 ((Fy.out).far4 Doy.symm _ _ _ _)
   have Nf:=at_of hW7 ((Ff.out).far4 Dof.symm _ _ _ _)
   have Np:=at_of hW7 ((Fp.out).far4 Dop.symm _ _ _ _)
   have NB:=gr_of hW7 (((((BW.out).setCell Eo _).setCell Eo _).setCell Eo _).setCell Eo _)
   clear hW7 BW Fa Fn Fm Fo Fk Ft Fr Fy Ff Fp
   have Fa:=Lib.hid Na
   have Fn:=Lib.hid Nn
   have Fm:=Lib.hid Nm
   have Fo:=Lib.hid No
   have Fk:=Lib.hid Nk
   have Ft:=Lib.hid Nt
   have Fr:=Lib.hid Nr
   have Fy:=Lib.hid Ny
   have Ff:=Lib.hid Nf
   have Fp:=Lib.hid Np
   have BW:=Lib.hid NB
   clear NB Na Nn Nm No Nk Nt Nr Ny Nf Np
   have Lo:=Fo.out.lt
   have co0:=Fo.out.c0
   have co1:=Fo.out.c1
   have co2:=Fo.out.c2
   have co3:=Fo.out.c3
   exact bodyPost_ret (v:=num V) (by simp [results,Tryd.results36,go_sem, *]) rfl ⟨rfl,BW.out⟩

set_option maxRecDepth 100000 in
set_option maxHeartbeats 8000000 in
theorem raise_plain (A N M:Nat) (st:Nat→Nat) (hA:A<M) (h1:1<M) (hM:M<2^256) (hN:N<2^256)
  (cW:∀ w,Calls Tryd.prog 49 #[num M] w fun e w'=>∃ gk:Nat,e=.returned (.agg #[.func (.func 80) #[] #[],.func (.func 80) #[] #[],.func (.func 81) #[] #[.pointer (some ⟨gk,0,none⟩)]])∧At w' gk 24 #[.int .u64 (wd M 0:Nat),.int .u64 (wd M 1:Nat),.int .u64 (wd M 2:Nat),.int .u64 (wd M 3:Nat)]∧w.heap.size≤gk∧Below w.heap.size w w')
  (cI:∀ x,x<M→∀ (gk:Nat) (w:World),At w gk 24 #[.int .u64 (wd M 0:Nat),.int .u64 (wd M 1:Nat),.int .u64 (wd M 2:Nat),.int .u64 (wd M 3:Nat)]→Calls Tryd.prog 80 #[num x] w fun e w'=>e=.returned (num (st x))∧Below w.heap.size w w')
  (cT:∀ x y,x<M→y<M→∀ (gk:Nat) (w:World),At w gk 24 #[.int .u64 (wd M 0:Nat),.int .u64 (wd M 1:Nat),.int .u64 (wd M 2:Nat),.int .u64 (wd M 3:Nat)]→Calls Tryd.prog 81 #[num (st x),num (st y),.pointer (some ⟨gk,0,none⟩)] w fun e w'=>e=.returned (num (st (x*y%M)))∧Below w.heap.size w w')
  (cB:∀ x,x<M→∀ (gk:Nat) (w:World),At w gk 24 #[.int .u64 (wd M 0:Nat),.int .u64 (wd M 1:Nat),.int .u64 (wd M 2:Nat),.int .u64 (wd M 3:Nat)]→Calls Tryd.prog 80 #[num (st x)] w fun e w'=>e=.returned (num x)∧Below w.heap.size w w')
  (w:World):Calls Tryd.prog 36 #[num A,num N,num M] w fun e w'=>e=.returned (num (A^N%M))∧Below w.heap.size w w':=by
 have HW:=Lib.hid cW;have HT:=Lib.hid cT;have HB:=Lib.hid cB
 have hM0:0<M:=by omega
 obtain ⟨fa,hfa⟩:∃ fa,fa=st A:=⟨_,rfl⟩
 obtain ⟨f1,hf1⟩:∃ f1,f1=st 1:=⟨_,rfl⟩
 obtain ⟨V,hV⟩:∃ V,V=A^N%M:=⟨_,rfl⟩
 obtain ⟨m,hm⟩:∃ m,Go.bitLen N=m:=⟨_,rfl⟩
 have I1:=cI A hA
 have I2:=cI 1 h1
 have IB:=bits_any N hN
 have hm256:m≤256:=by rw [← hm];exact bl_le' N hN
 have hNm:N<2^m:=by rw [← hm];exact (Go.bitLen_spec N).1
 rw [hm] at IB
 rw [← hfa] at I1
 rw [← hf1] at I2
 rw [← hV]
 have IO:=of_any 1 (by decide)
 have HI1:=Lib.hid I1;have HI2:=Lib.hid I2;have HIB:=Lib.hid IB;have HIO:=Lib.hid IO;have HFA:=Lib.hid hfa;have HF1:=Lib.hid hf1;have HV:=Lib.hid hV;have HNM:=Lib.hid hNm
 have HA:=Lib.hid hA;have HM0:=Lib.hid hM0;have HN:=Lib.hid hN;have H1:=Lib.hid h1
 clear cW cT cB cI I1 I2 IB IO hfa hf1 hV hNm hm hA hM0 hN h1 hM
 go_enter Tryd.func36,Tryd.ntmps36
 go_wp2_with fail
 have BW:=Lib.hid (Below.refl w.heap.size w)
 have Eo:w.heap.size≤w.heap.size+1+1+1:=by have:=BW.out.size;omega
 have Dao:w.heap.size≠w.heap.size+1+1+1:=by omega
 have Dno:w.heap.size+1≠w.heap.size+1+1+1:=by omega
 have Dmo:w.heap.size+1+1≠w.heap.size+1+1+1:=by omega
 generalize hW1:((((w.alloc (.cells #[.int .u64 (wd A 0:Nat),.int .u64 (wd A 1:Nat),.int .u64 (wd A 2:Nat),.int .u64 (wd A 3:Nat)] 24)).alloc (.cells #[.int .u64 (wd N 0:Nat),.int .u64 (wd N 1:Nat),.int .u64 (wd N 2:Nat),.int .u64 (wd N 3:Nat)] 24)).alloc (.cells #[.int .u64 (wd M 0:Nat),.int .u64 (wd M 1:Nat),.int .u64 (wd M 2:Nat),.int .u64 (wd M 3:Nat)] 24)).alloc (.cells #[.int .u64 0,.int .u64 0,.int .u64 0,.int .u64 0] 24))=W1 at *
 have Na:At W1 (w.heap.size) _ _:=at_of hW1 ((((At.at_ _ _ _ _ (by simp)).alloc _).alloc _).alloc _)
 have Nn:At W1 (w.heap.size+1) _ _:=at_of hW1 (((At.at_ _ _ _ _ (by simp)).alloc _).alloc _)
 have Nm:At W1 (w.heap.size+1+1) _ _:=at_of hW1 ((At.at_ _ _ _ _ (by simp)).alloc _)
 have No:At W1 (w.heap.size+1+1+1) _ _:=at_of hW1 (At.at_ _ _ _ _ (by simp))
 have NB:=gr_of hW1 (gr_alloc (gr_alloc (gr_alloc (gr_alloc BW.out _) _) _) _)
 clear hW1 BW 
 generalize w.heap.size+1+1+1=go at *
 generalize w.heap.size+1+1=gm at *
 generalize w.heap.size+1=gn at *
 obtain ⟨ga,hg0⟩:∃ g,g=w.heap.size:=⟨_,rfl⟩
 rw [← hg0] at Na ⊢
 rw [← hg0] at Dao
 clear hg0
 have Fa:=Lib.hid Na
 have Fn:=Lib.hid Nn
 have Fm:=Lib.hid Nm
 have Fo:=Lib.hid No
 have BW:=Lib.hid NB
 clear NB Na Nn Nm No
 refine (HW.out _).mono ?_
 rintro e v2 ⟨gk,rfl,Nk,Zk,z2⟩
 have Dak:ga≠gk:=by have:=Fa.out.lt;omega
 have Dnk:gn≠gk:=by have:=Fn.out.lt;omega
 have Dmk:gm≠gk:=by have:=Fm.out.lt;omega
 have Dok:go≠gk:=by have:=Fo.out.lt;omega
 have Ek:w.heap.size≤gk:=Nat.le_trans BW.out.size Zk
 have Fa:=Lib.hid (Fa.out.on z2)
 have Fn:=Lib.hid (Fn.out.on z2)
 have Fm:=Lib.hid (Fm.out.on z2)
 have Fo:=Lib.hid (Fo.out.on z2)
 have Fk:=Lib.hid Nk
 have NB:=Lib.hid (bel_tr BW.out z2)
 clear BW z2 Nk Zk
 have BW:=NB
 clear NB
 go_wp2_with fail
 have Doy:go≠v2.heap.size:=by have:=Fo.out.lt;omega
 generalize hW3:(v2.alloc (.cells #[.func (.func 80) #[] #[],.func (.func 80) #[] #[],.func (.func 81) #[] #[.pointer (some ⟨gk,0,none⟩)]] 75))=W3 at *
 have Ny:At W3 (v2.heap.size) _ _:=at_of hW3 (At.at_ _ _ _ _ (by simp))
 have Na:=at_of hW3 (Fa.out.alloc _)
 have Nn:=at_of hW3 (Fn.out.alloc _)
 have Nm:=at_of hW3 (Fm.out.alloc _)
 have No:=at_of hW3 (Fo.out.alloc _)
 have Nk:=at_of hW3 (Fk.out.alloc _)
 have NB:=gr_of hW3 (gr_alloc BW.out _)
 clear hW3 BW Fa Fn Fm Fo Fk
 generalize v2.heap.size=gy at *
 have Fa:=Lib.hid Na
 have Fn:=Lib.hid Nn
 have Fm:=Lib.hid Nm
 have Fo:=Lib.hid No
 have Fk:=Lib.hid Nk
 have Fy:=Lib.hid Ny
 have BW:=Lib.hid NB
 clear NB Na Nn Nm No Nk Ny
 try simp only [List.append_eq,List.cons_append,List.nil_append]
 refine wp_region_noPanic ?_
 refine wp_region_held_drew (S:=fun w'=>At w' gy 75 #[.func (.func 80) #[] #[],.func (.func 80) #[] #[],.func (.func 81) #[] #[.pointer (some ⟨gk,0,none⟩)]]) (by kernel_rfl) (Fy.out.drew) (fun _=>?_)
 refine wpAnyH_cores (fuel:=2) (⟨0,15,[],Kind.val (.pointer (some ⟨gy,0,none⟩)),true⟩::⟨1,16,[0],Kind.val (.func (.func 80) #[] #[]),true⟩::⟨2,17,[],Kind.val (.agg #[.int .u64 (wd A 0:Nat),.int .u64 (wd A 1:Nat),.int .u64 (wd A 2:Nat),.int .u64 (wd A 3:Nat)]),false⟩::⟨3,18,[1,2],Kind.val (.agg #[.int .u64 (wd fa 0:Nat),.int .u64 (wd fa 1:Nat),.int .u64 (wd fa 2:Nat),.int .u64 (wd fa 3:Nat)]),false⟩::⟨4,19,[],Kind.val (.pointer (some ⟨gy,0,none⟩)),true⟩::⟨5,20,[4],Kind.val (.func (.func 80) #[] #[]),true⟩::⟨6,21,[3],Kind.val (.agg #[.int .u64 (wd 1 0:Nat),.int .u64 (wd 1 1:Nat),.int .u64 (wd 1 2:Nat),.int .u64 (wd 1 3:Nat)]),false⟩::⟨7,22,[5,6],Kind.val (.agg #[.int .u64 (wd f1 0:Nat),.int .u64 (wd f1 1:Nat),.int .u64 (wd f1 2:Nat),.int .u64 (wd f1 3:Nat)]),false⟩::⟨8,8,[],Kind.cell W3.heap.size 24 #[.int .u64 0,.int .u64 0,.int .u64 0,.int .u64 0],false⟩::⟨9,9,[],Kind.cell W3.heap.size 24 #[.int .u64 0,.int .u64 0,.int .u64 0,.int .u64 0],false⟩::[]) _ _ W3 _ ?_ ?_ ?_ ?_ ?_ ?_ ?_ ?_ ?_ ?_ ?_
 ·rfl
 ·kernel_rfl
 ·exact of_decide_eq_true rfl
 ·(repeat refine all_cons ⟨_,rfl,rfl⟩ ?_);exact all_nil
 ·exact fun _ hb=>Fy.out.on hb
 ·exact (Below.refl _ _).drew
 ·kernel_rfl
 ·exact fun _ _ _ _ _ h=>h
 ·(repeat (refine all_cons ?_ ?_;rotate_left));exact all_nil
  ·exact core_held _ _ _ _ _ _ _ _ (by rfl) (by rfl) (ko 7) (fun ρ w hx _=>fieldWay0 _ _ _ _ _ _ ρ w gy hx)
  ·exact core_held _ _ _ _ _ _ _ _ (by rfl) (by rfl) (kc 0 15) (fun ρ w hx hs=>loadF1_run _ _ _ _ _ _ ρ w gy 0 _ hx (hs.cell 0))
  ·exact core_pureAs _ (by rfl)
  ·exact core_pureAs _ (by rfl)
  ·exact core_held _ _ _ _ _ _ _ _ (by rfl) (by rfl) (ko 7) (fun ρ w hx _=>fieldWay0 _ _ _ _ _ _ ρ w gy hx)
  ·exact core_held _ _ _ _ _ _ _ _ (by rfl) (by rfl) (kc 4 19) (fun ρ w hx hs=>loadF1_run _ _ _ _ _ _ ρ w gy 0 _ hx (hs.cell 0))
  ·exact core_pureAs _ (by rfl)
  ·exact core_pureAs _ (by rfl)
  ·exact core_pureAs _ (by rfl)
  ·exact core_pureAs _ (by rfl)
 ·(repeat (refine all_cons ?_ ?_;rotate_left));exact all_nil
  ·exact sA
  ·exact sA
  ·exact fun _=>core_load _ _ _ _ _ ga _ _ _ _ (by rfl) (by rfl) (ko 3) Fa.out
  ·exact fun _=>core_callV _ 80 _ _ (.tmp 16) #[] [.tmp 17] _ _ _ _ _ _ _ (by rfl) Tryd.func80 (by kernel_rfl) (by rfl) (by rfl) (kc 1 16) (.cons (kc 2 17) .nil) (by rfl) (fun w hb=>HI1.out _ _ (Fk.out.on hb))
  ·exact sA
  ·exact sA
  ·exact fun _=>core_call _ 30 _ _ [.const (.int .u64 1)] _ _ _ _ _ _ (by rfl) Tryd.func30 (by kernel_rfl) (by rfl) (by rfl) (.cons (known_const _) .nil) (HIO.out)
  ·exact fun _=>core_callV _ 80 _ _ (.tmp 20) #[] [.tmp 21] _ _ _ _ _ _ _ (by rfl) Tryd.func80 (by kernel_rfl) (by rfl) (by rfl) (kc 5 20) (.cons (kc 6 21) .nil) (by rfl) (fun w hb=>HI2.out _ _ (Fk.out.on hb))
  ·exact fun _=>core_alloc _ _ _ _ _ (by rfl) (by rfl) (Nat.le_refl _)
  ·exact fun _=>core_alloc _ _ _ _ _ (by rfl) (by rfl) (Nat.le_refl _)
 intro vs y4 hc
 obtain ⟨vv0,vv1,vv2,vv3,vv4,vv5,vv6,vv7,vv8,vv9,rfl⟩:=len10 vs hc.lv
 have qq0:=okv hc 0
 have qq1:=okv hc 1
 have qq2:=okv hc 2
 have qq3:=okv hc 3
 have qq4:=okv hc 4
 have qq5:=okv hc 5
 have qq6:=okv hc 6
 have qq7:=okv hc 7
 obtain ⟨xx,hx,gf,hv,Ef,Af⟩:=hc.ok 8 _ rfl rfl
 have qq8:vv8=.pointer (some ⟨gf,0,none⟩):=(Option.some.inj (show some vv8=some xx from hx)).trans hv
 clear hx hv
 obtain ⟨xx,hx,gp,hv,Ep,Ap⟩:=hc.ok 9 _ rfl rfl
 have qq9:vv9=.pointer (some ⟨gp,0,none⟩):=(Option.some.inj (show some vv9=some xx from hx)).trans hv
 clear hx hv
 have Dfp:gf≠gp:=fun e=>hc.far 8 9 _ _ rfl rfl rfl rfl (by decide) rfl rfl (by show some vv8=some vv9;rw [qq8,qq9,e])
 have BZ:=hc.bel
 clear hc
 have Na:=Fa.out.on BZ
 have Nn:=Fn.out.on BZ
 have Nm:=Fm.out.on BZ
 have No:=Fo.out.on BZ
 have Nk:=Fk.out.on BZ
 have Ny:=Fy.out.on BZ
 have Daf:ga≠gf:=by have:=Fa.out.lt;omega
 have Dnf:gn≠gf:=by have:=Fn.out.lt;omega
 have Dmf:gm≠gf:=by have:=Fm.out.lt;omega
 have Dof:go≠gf:=by have:=Fo.out.lt;omega
 have Dkf:gk≠gf:=by have:=Fk.out.lt;omega
 have Dyf:gy≠gf:=by have:=Fy.out.lt;omega
 have Dap:ga≠gp:=by have:=Fa.out.lt;omega
 have Dnp:gn≠gp:=by have:=Fn.out.lt;omega
 have Dmp:gm≠gp:=by have:=Fm.out.lt;omega
 have Dop:go≠gp:=by have:=Fo.out.lt;omega
 have Dkp:gk≠gp:=by have:=Fk.out.lt;omega
 have Dyp:gy≠gp:=by have:=Fy.out.lt;omega
 have EEp:w.heap.size≤gp:=Nat.le_trans BW.out.size Ep
 have HSZ4:=BW.out.size
 have NB:=bel_tr BW.out BZ
 clear BW BZ Fa Fn Fm Fo Fk Fy
 subst qq0 qq1 qq2 qq3 qq4 qq5 qq6 qq7 qq8 qq9
 simp only [List.map_cons,List.map_nil,over,Act.put,List.setIfInBounds_toArray,List.set_cons_zero,List.set_cons_succ]
 have OLD:=Af
 replace Na:=put4_far Na Daf (.int .u64 (wd fa 0:Nat)) (.int .u64 (wd fa 1:Nat)) (.int .u64 (wd fa 2:Nat)) (.int .u64 (wd fa 3:Nat))
 replace Nn:=put4_far Nn Dnf (.int .u64 (wd fa 0:Nat)) (.int .u64 (wd fa 1:Nat)) (.int .u64 (wd fa 2:Nat)) (.int .u64 (wd fa 3:Nat))
 replace Nm:=put4_far Nm Dmf (.int .u64 (wd fa 0:Nat)) (.int .u64 (wd fa 1:Nat)) (.int .u64 (wd fa 2:Nat)) (.int .u64 (wd fa 3:Nat))
 replace No:=put4_far No Dof (.int .u64 (wd fa 0:Nat)) (.int .u64 (wd fa 1:Nat)) (.int .u64 (wd fa 2:Nat)) (.int .u64 (wd fa 3:Nat))
 replace Nk:=put4_far Nk Dkf (.int .u64 (wd fa 0:Nat)) (.int .u64 (wd fa 1:Nat)) (.int .u64 (wd fa 2:Nat)) (.int .u64 (wd fa 3:Nat))
 replace Ny:=put4_far Ny Dyf (.int .u64 (wd fa 0:Nat)) (.int .u64 (wd fa 1:Nat)) (.int .u64 (wd fa 2:Nat)) (.int .u64 (wd fa 3:Nat))
 replace Af:=put4_at Af (.int .u64 (wd fa 0:Nat)) (.int .u64 (wd fa 1:Nat)) (.int .u64 (wd fa 2:Nat)) (.int .u64 (wd fa 3:Nat))
 replace Ap:=put4_far Ap Dfp.symm (.int .u64 (wd fa 0:Nat)) (.int .u64 (wd fa 1:Nat)) (.int .u64 (wd fa 2:Nat)) (.int .u64 (wd fa 3:Nat))
 replace NB:=put4_below NB (Nat.le_trans HSZ4 Ef) (.int .u64 (wd fa 0:Nat)) (.int .u64 (wd fa 1:Nat)) (.int .u64 (wd fa 2:Nat)) (.int .u64 (wd fa 3:Nat))
 refine store_one (i:=10) _ _ _ _ _ gf _ _ _ _ _ _ _ _ (by kernel_rfl) (by rfl) (by rfl) (by rfl) OLD (Ny) ?_
 clear OLD
 generalize (put4 y4 gf (.int .u64 (wd fa 0:Nat)) (.int .u64 (wd fa 1:Nat)) (.int .u64 (wd fa 2:Nat)) (.int .u64 (wd fa 3:Nat)))=y4_10 at *
 have OLD:=Ap
 replace Na:=put4_far Na Dap (.int .u64 (wd f1 0:Nat)) (.int .u64 (wd f1 1:Nat)) (.int .u64 (wd f1 2:Nat)) (.int .u64 (wd f1 3:Nat))
 replace Nn:=put4_far Nn Dnp (.int .u64 (wd f1 0:Nat)) (.int .u64 (wd f1 1:Nat)) (.int .u64 (wd f1 2:Nat)) (.int .u64 (wd f1 3:Nat))
 replace Nm:=put4_far Nm Dmp (.int .u64 (wd f1 0:Nat)) (.int .u64 (wd f1 1:Nat)) (.int .u64 (wd f1 2:Nat)) (.int .u64 (wd f1 3:Nat))
 replace No:=put4_far No Dop (.int .u64 (wd f1 0:Nat)) (.int .u64 (wd f1 1:Nat)) (.int .u64 (wd f1 2:Nat)) (.int .u64 (wd f1 3:Nat))
 replace Nk:=put4_far Nk Dkp (.int .u64 (wd f1 0:Nat)) (.int .u64 (wd f1 1:Nat)) (.int .u64 (wd f1 2:Nat)) (.int .u64 (wd f1 3:Nat))
 replace Ny:=put4_far Ny Dyp (.int .u64 (wd f1 0:Nat)) (.int .u64 (wd f1 1:Nat)) (.int .u64 (wd f1 2:Nat)) (.int .u64 (wd f1 3:Nat))
 replace Af:=put4_far Af Dfp (.int .u64 (wd f1 0:Nat)) (.int .u64 (wd f1 1:Nat)) (.int .u64 (wd f1 2:Nat)) (.int .u64 (wd f1 3:Nat))
 replace Ap:=put4_at Ap (.int .u64 (wd f1 0:Nat)) (.int .u64 (wd f1 1:Nat)) (.int .u64 (wd f1 2:Nat)) (.int .u64 (wd f1 3:Nat))
 replace NB:=put4_below NB (Nat.le_trans HSZ4 Ep) (.int .u64 (wd f1 0:Nat)) (.int .u64 (wd f1 1:Nat)) (.int .u64 (wd f1 2:Nat)) (.int .u64 (wd f1 3:Nat))
 refine store_one (i:=11) _ _ _ _ _ gp _ _ _ _ _ _ _ _ (by kernel_rfl) (by rfl) (by rfl) (by rfl) OLD (Ny) ?_
 clear OLD
 generalize (put4 y4_10 gp (.int .u64 (wd f1 0:Nat)) (.int .u64 (wd f1 1:Nat)) (.int .u64 (wd f1 2:Nat)) (.int .u64 (wd f1 3:Nat)))=y4_11 at *
 refine wpAnyH_done (by kernel_rfl) ?_ _
 refine NoPanic.normal ?_
 have Fa:=Lib.hid Na
 have Fn:=Lib.hid Nn
 have Fm:=Lib.hid Nm
 have Fo:=Lib.hid No
 have Fk:=Lib.hid Nk
 have Fy:=Lib.hid Ny
 have Ff:=Lib.hid Af
 have Fp:=Lib.hid Ap
 have BW:=Lib.hid NB
 clear NB Na Nn Nm No Nk Ny Af Ap
 clear Ef
 clear Ep
 have Ep:=EEp
 clear HSZ4
 have Ln:=Fn.out.lt
 have cn0:=Fn.out.c0
 have cn1:=Fn.out.c1
 have cn2:=Fn.out.c2
 have cn3:=Fn.out.c3
 go_wp2_with fail
 clear Ln cn0 cn1 cn2 cn3
 refine (HIB.out _).mono ?_
 rintro e v5 ⟨rfl,z5⟩
 have Na:=Lib.hid (Fa.out.on z5)
 have Nn:=Lib.hid (Fn.out.on z5)
 have Nm:=Lib.hid (Fm.out.on z5)
 have No:=Lib.hid (Fo.out.on z5)
 have Nk:=Lib.hid (Fk.out.on z5)
 have Ny:=Lib.hid (Fy.out.on z5)
 have Nf:=Lib.hid (Ff.out.on z5)
 have Np:=Lib.hid (Fp.out.on z5)
 have NB:=Lib.hid (bel_tr BW.out z5)
 clear BW z5 Fa Fn Fm Fo Fk Fy Ff Fp
 have Fa:=Na
 have Fn:=Nn
 have Fm:=Nm
 have Fo:=No
 have Fk:=Nk
 have Fy:=Ny
 have Ff:=Nf
 have Fp:=Np
 have BW:=NB
 clear NB Na Nn Nm No Nk Ny Nf Np
 go_wp2_with fail
 go_loopw [27] (fun s wr=>∃ i X:Nat,i≤m∧s=.int .i64 (i:Nat)∧Hid (At wr ga 24 #[.int .u64 (wd A 0:Nat),.int .u64 (wd A 1:Nat),.int .u64 (wd A 2:Nat),.int .u64 (wd A 3:Nat)]∧At wr gn 24 #[.int .u64 (wd N 0:Nat),.int .u64 (wd N 1:Nat),.int .u64 (wd N 2:Nat),.int .u64 (wd N 3:Nat)]∧At wr gm 24 #[.int .u64 (wd M 0:Nat),.int .u64 (wd M 1:Nat),.int .u64 (wd M 2:Nat),.int .u64 (wd M 3:Nat)]∧At wr go 24 #[.int .u64 0,.int .u64 0,.int .u64 0,.int .u64 0]∧At wr gk 24 #[.int .u64 (wd M 0:Nat),.int .u64 (wd M 1:Nat),.int .u64 (wd M 2:Nat),.int .u64 (wd M 3:Nat)]∧At wr gy 75 #[.func (.func 80) #[] #[],.func (.func 80) #[] #[],.func (.func 81) #[] #[.pointer (some ⟨gk,0,none⟩)]]∧At wr gf 24 #[.int .u64 (wd fa 0:Nat),.int .u64 (wd fa 1:Nat),.int .u64 (wd fa 2:Nat),.int .u64 (wd fa 3:Nat)]∧At wr gp 24 #[.int .u64 (wd X 0:Nat),.int .u64 (wd X 1:Nat),.int .u64 (wd X 2:Nat),.int .u64 (wd X 3:Nat)]∧Below w.heap.size w wr∧X=st (A^(N/2^(m-i))%M))) (fun s _=>m-(intOf s).toNat)
 case atStart=>
  refine ⟨0,f1,by omega,rfl,Fa.out,Fn.out,Fm.out,Fo.out,Fk.out,Fy.out,Ff.out,Fp.out,BW.out,?_⟩
  rw [HF1.out,Nat.sub_zero,Nat.div_eq_of_lt HNM.out,Nat.pow_zero,Nat.mod_eq_of_lt H1.out]
 case round=>
  obtain ⟨i,X,hi,rfl,hM⟩:=hrel
  clear BW Fa Fn Fm Fo Fk Fy Ff Fp
  have Fa:=Lib.hid hM.out.1
  have Fn:=Lib.hid hM.out.2.1
  have Fm:=Lib.hid hM.out.2.2.1
  have Fo:=Lib.hid hM.out.2.2.2.1
  have Fk:=Lib.hid hM.out.2.2.2.2.1
  have Fy:=Lib.hid hM.out.2.2.2.2.2.1
  have Ff:=Lib.hid hM.out.2.2.2.2.2.2.1
  have Fp:=Lib.hid hM.out.2.2.2.2.2.2.2.1
  have BW:=Lib.hid hM.out.2.2.2.2.2.2.2.2.1
  have HX:=Lib.hid hM.out.2.2.2.2.2.2.2.2.2
  clear hM
  by_cases hlt:i<m
  ·obtain ⟨j,hj⟩:∃ j,m=i+1+j:=⟨m-i-1,by omega⟩
   have hgi:(m:Int)-1-(i:Int)=(j:Nat):=by omega
   have hi256:i≤255:=by omega
   have e1:m-i=j+1:=by omega
   have e2:m-(i+1)=j:=by omega
   have hx:=HX.out
   rw [e1] at hx
   have HX2:=Lib.hid hx
   have hb2:N/2^j%2=0∨N/2^j%2=1:=by omega
   have HE2:=Lib.hid e2;have HJ:=Lib.hid hj
   clear hx e1 e2 HX hj
   have hbt:bt N (j:Int)=N/2^j%2:=by unfold bt;rw [if_neg (by omega),Int.toNat_natCast]
   have CB:=bit_any N HN.out (j:Int)
   have hE:=Nat.mod_lt (A^(N/2^(j+1))) HM0.out
   have CT1:=HT.out _ _ hE hE
   rw [← HX2.out] at CT1
   rcases hb2 with hb | hb
   ·rw [hbt,hb] at CB
    have CB0:∀ w,Calls Tryd.prog 51 #[num N,.int .i64 (j:Nat)] w fun e w'=>e=.returned (.int .u64 0)∧Below w.heap.size w w':=fun w=>CB w
    obtain ⟨Y,hy⟩:∃ Y,Y=st ((A^(N/2^(j+1))%M)*(A^(N/2^(j+1))%M)%M):=⟨_,rfl⟩
    rw [← hy] at CT1
    rw [pw_bit A M N j hb] at hy
    have HCB:=Lib.hid CB0;have HC1:=Lib.hid CT1;have HY:=Lib.hid hy
    clear CB CB0 CT1 hy hb hbt hE
    have Ln:=Fn.out.lt
    have cn0:=Fn.out.c0
    have cn1:=Fn.out.c1
    have cn2:=Fn.out.c2
    have cn3:=Fn.out.c3
    go_wp2_with fail
    clear Ln cn0 cn1 cn2 cn3
    refine (HCB.out _).mono ?_
    rintro e v6 ⟨rfl,z6⟩
    have Na:=Lib.hid (Fa.out.on z6)
    have Nn:=Lib.hid (Fn.out.on z6)
    have Nm:=Lib.hid (Fm.out.on z6)
    have No:=Lib.hid (Fo.out.on z6)
    have Nk:=Lib.hid (Fk.out.on z6)
    have Ny:=Lib.hid (Fy.out.on z6)
    have Nf:=Lib.hid (Ff.out.on z6)
    have Np:=Lib.hid (Fp.out.on z6)
    have NB:=Lib.hid (bel_tr BW.out z6)
    clear BW z6 Fa Fn Fm Fo Fk Fy Ff Fp
    have Fa:=Na
    have Fn:=Nn
    have Fm:=Nm
    have Fo:=No
    have Fk:=Nk
    have Fy:=Ny
    have Ff:=Nf
    have Fp:=Np
    have BW:=NB
    clear NB Na Nn Nm No Nk Ny Nf Np
    go_wp2_with fail
    refine (gather0_plain gy gp gf gk X fa Y _ Dyp Dfp (fun v hk=>HC1.out _ _ (Fk.out.kept hk Dkp))  Fy.out Fp.out Ff.out).mono ?_
    rintro e v7 ⟨rfl,Np,hk⟩
    have Na:=Lib.hid (Fa.out.kept hk Dap)
    have Nn:=Lib.hid (Fn.out.kept hk Dnp)
    have Nm:=Lib.hid (Fm.out.kept hk Dmp)
    have No:=Lib.hid (Fo.out.kept hk Dop)
    have Nk:=Lib.hid (Fk.out.kept hk Dkp)
    have Ny:=Lib.hid (Fy.out.kept hk Dyp)
    have Nf:=Lib.hid (Ff.out.kept hk Dfp)
    have NB:=Lib.hid (Below.kept BW.out (Nat.le_refl _) hk Ep)
    clear BW hk Fa Fn Fm Fo Fk Fy Ff Fp
    have Fa:=Na
    have Fn:=Nn
    have Fm:=Nm
    have Fo:=No
    have Fk:=Nk
    have Fy:=Ny
    have Ff:=Nf
    have Fp:=Lib.hid Np
    have BW:=NB
    clear NB Na Nn Nm No Nk Ny Nf Np
    go_wp2_with fail
    go_roundw
    case rel=>
     have hj:=HJ.out
     have hE:Y=st (A^(N/2^(m-(i+1)))%M):=by rw [HE2.out];exact HY.out
     first
      | exact ⟨i+1,Y,by omega,by go_num,Fa.out,Fn.out,Fm.out,Fo.out,Fk.out,Fy.out,Ff.out,Fp.out,BW.out,hE⟩
      | ((repeat apply Exists.intro);exact ⟨⟨i+1,Y,by omega,by go_num,Fa.out,Fn.out,Fm.out,Fo.out,Fk.out,Fy.out,Ff.out,Fp.out,BW.out,hE⟩,rfl⟩)
    case measure=>(have hj:=HJ.out;simp [intOf];omega)
   ·rw [hbt,hb] at CB
    have CB0:∀ w,Calls Tryd.prog 51 #[num N,.int .i64 (j:Nat)] w fun e w'=>e=.returned (.int .u64 1)∧Below w.heap.size w w':=fun w=>CB w
    have CT2:=HT.out _ A (Nat.mod_lt ((A^(N/2^(j+1))%M)*(A^(N/2^(j+1))%M)) HM0.out) HA.out
    obtain ⟨Y,hy0⟩:∃ Y,Y=st ((A^(N/2^(j+1))%M)*(A^(N/2^(j+1))%M)%M):=⟨_,rfl⟩
    obtain ⟨Z,hy⟩:∃ Z,Z=st ((A^(N/2^(j+1))%M)*(A^(N/2^(j+1))%M)%M*A%M):=⟨_,rfl⟩
    rw [← hy0] at CT1
    rw [← hy,← hy0,← HFA.out] at CT2
    rw [pw_bit1 A M N j HA.out hb] at hy
    have HCB:=Lib.hid CB0;have HC1:=Lib.hid CT1;have HY:=Lib.hid hy
    have HC2:=Lib.hid CT2
    clear CB CB0 CT1 hy hb hbt hE CT2 hy0
    have Ln:=Fn.out.lt
    have cn0:=Fn.out.c0
    have cn1:=Fn.out.c1
    have cn2:=Fn.out.c2
    have cn3:=Fn.out.c3
    go_wp2_with fail
    clear Ln cn0 cn1 cn2 cn3
    refine (HCB.out _).mono ?_
    rintro e v6 ⟨rfl,z6⟩
    have Na:=Lib.hid (Fa.out.on z6)
    have Nn:=Lib.hid (Fn.out.on z6)
    have Nm:=Lib.hid (Fm.out.on z6)
    have No:=Lib.hid (Fo.out.on z6)
    have Nk:=Lib.hid (Fk.out.on z6)
    have Ny:=Lib.hid (Fy.out.on z6)
    have Nf:=Lib.hid (Ff.out.on z6)
    have Np:=Lib.hid (Fp.out.on z6)
    have NB:=Lib.hid (bel_tr BW.out z6)
    clear BW z6 Fa Fn Fm Fo Fk Fy Ff Fp
    have Fa:=Na
    have Fn:=Nn
    have Fm:=Nm
    have Fo:=No
    have Fk:=Nk
    have Fy:=Ny
    have Ff:=Nf
    have Fp:=Np
    have BW:=NB
    clear NB Na Nn Nm No Nk Ny Nf Np
    go_wp2_with fail
    refine (gather1_plain gy gp gf gk X fa Y Z _ Dyp Dfp (fun v hk=>HC1.out _ _ (Fk.out.kept hk Dkp)) (fun v hk=>HC2.out _ _ (Fk.out.kept hk Dkp)) Fy.out Fp.out Ff.out).mono ?_
    rintro e v7 ⟨rfl,Np,hk⟩
    have Na:=Lib.hid (Fa.out.kept hk Dap)
    have Nn:=Lib.hid (Fn.out.kept hk Dnp)
    have Nm:=Lib.hid (Fm.out.kept hk Dmp)
    have No:=Lib.hid (Fo.out.kept hk Dop)
    have Nk:=Lib.hid (Fk.out.kept hk Dkp)
    have Ny:=Lib.hid (Fy.out.kept hk Dyp)
    have Nf:=Lib.hid (Ff.out.kept hk Dfp)
    have NB:=Lib.hid (Below.kept BW.out (Nat.le_refl _) hk Ep)
    clear BW hk Fa Fn Fm Fo Fk Fy Ff Fp
    have Fa:=Na
    have Fn:=Nn
    have Fm:=Nm
    have Fo:=No
    have Fk:=Nk
    have Fy:=Ny
    have Ff:=Nf
    have Fp:=Lib.hid Np
    have BW:=NB
    clear NB Na Nn Nm No Nk Ny Nf Np
    go_wp2_with fail
    go_roundw
    case rel=>
     have hj:=HJ.out
     have hE:Z=st (A^(N/2^(m-(i+1)))%M):=by rw [HE2.out];exact HY.out
     first
      | exact ⟨i+1,Z,by omega,by go_num,Fa.out,Fn.out,Fm.out,Fo.out,Fk.out,Fy.out,Ff.out,Fp.out,BW.out,hE⟩
      | ((repeat apply Exists.intro);exact ⟨⟨i+1,Z,by omega,by go_num,Fa.out,Fn.out,Fm.out,Fo.out,Fk.out,Fy.out,Ff.out,Fp.out,BW.out,hE⟩,rfl⟩)
    case measure=>(have hj:=HJ.out;simp [intOf];omega)
  ·have hz:¬ (i:Int)<(m:Int):=by omega
   have hv:A^(N/2^(m-i))%M=V:=by rw [show m-i=0 by omega,Nat.pow_zero,Nat.div_one,HV.out]
   have CB:=HB.out V (by rw [HV.out];exact Nat.mod_lt _ HM0.out)
   rw [← hv,← HX.out,hv] at CB
   have HCB:=Lib.hid CB
   clear CB hv
   have Ly:=Fy.out.lt
   have cy0:wr.cell? ⟨gy,0,none⟩=some (.func (.func 80) #[] #[]):=Fy.out.cell 0
   have cy1:wr.cell? ⟨gy,1,none⟩=some (.func (.func 80) #[] #[]):=Fy.out.cell 1
   have cy2:wr.cell? ⟨gy,2,none⟩=some (.func (.func 81) #[] #[.pointer (some ⟨gk,0,none⟩)]):=Fy.out.cell 2
   have Lp:=Fp.out.lt
   have cp0:=Fp.out.c0
   have cp1:=Fp.out.c1
   have cp2:=Fp.out.c2
   have cp3:=Fp.out.c3
   go_wp2_with fail
   clear Ly cy0 cy1 cy2 Lp cp0 cp1 cp2 cp3
   refine (HCB.out _ _ Fk.out).mono ?_
   rintro e v6 ⟨rfl,z6⟩
   have Na:=Lib.hid (Fa.out.on z6)
   have Nn:=Lib.hid (Fn.out.on z6)
   have Nm:=Lib.hid (Fm.out.on z6)
   have No:=Lib.hid (Fo.out.on z6)
   have Nk:=Lib.hid (Fk.out.on z6)
   have Ny:=Lib.hid (Fy.out.on z6)
   have Nf:=Lib.hid (Ff.out.on z6)
   have Np:=Lib.hid (Fp.out.on z6)
   have NB:=Lib.hid (bel_tr BW.out z6)
   clear BW z6 Fa Fn Fm Fo Fk Fy Ff Fp
   have Fa:=Na
   have Fn:=Nn
   have Fm:=Nm
   have Fo:=No
   have Fk:=Nk
   have Fy:=Ny
   have Ff:=Nf
   have Fp:=Np
   have BW:=NB
   clear NB Na Nn Nm No Nk Ny Nf Np
   have Lo:=Fo.out.lt
   have co0:=Fo.out.c0
   have co1:=Fo.out.c1
   have co2:=Fo.out.c2
   have co3:=Fo.out.c3
   have fo0:v6.frozen? ⟨go,0,none⟩=false:=Fo.out.frozen 0
   have fo1:v6.frozen? ⟨go,1,none⟩=false:=Fo.out.frozen 1
   have fo2:v6.frozen? ⟨go,2,none⟩=false:=Fo.out.frozen 2
   have fo3:v6.frozen? ⟨go,3,none⟩=false:=Fo.out.frozen 3
   go_wp2_with fail
   clear Lo co0 co1 co2 co3 fo0 fo1 fo2 fo3
   generalize hW7:((((v6.setCell ⟨go,0,none⟩ (.int .u64 (wd V 0:Nat))).setCell ⟨go,1,none⟩ (.int .u64 (wd V 1:Nat))).setCell ⟨go,2,none⟩ (.int .u64 (wd V 2:Nat))).setCell ⟨go,3,none⟩ (.int .u64 (wd V 3:Nat)))=W7 at *
   have Na:=at_of hW7 ((Fa.out).far4 Dao _ _ _ _)
   have Nn:=at_of hW7 ((Fn.out).far4 Dno _ _ _ _)
   have Nm:=at_of hW7 ((Fm.out).far4 Dmo _ _ _ _)
   have No:=at_of hW7 ((Fo.out).put4 _ _ _ _)
   have Nk:=at_of hW7 ((Fk.out).far4 Dok.symm _ _ _ _)
   have Ny:=at_of hW7 ((Fy.out).far4 Doy.symm _ _ _ _)
   have Nf:=at_of hW7 ((Ff.out).far4 Dof.symm _ _ _ _)
   have Np:=at_of hW7 ((Fp.out).far4 Dop.symm _ _ _ _)
   have NB:=gr_of hW7 (((((BW.out).setCell Eo _).setCell Eo _).setCell Eo _).setCell Eo _)
   clear hW7 BW Fa Fn Fm Fo Fk Fy Ff Fp
   have Fa:=Lib.hid Na
   have Fn:=Lib.hid Nn
   have Fm:=Lib.hid Nm
   have Fo:=Lib.hid No
   have Fk:=Lib.hid Nk
   have Fy:=Lib.hid Ny
   have Ff:=Lib.hid Nf
   have Fp:=Lib.hid Np
   have BW:=Lib.hid NB
   clear NB Na Nn Nm No Nk Ny Nf Np
   have Lo:=Fo.out.lt
   have co0:=Fo.out.c0
   have co1:=Fo.out.c1
   have co2:=Fo.out.c2
   have co3:=Fo.out.c3
   exact bodyPost_ret (v:=num V) (by simp [results,Tryd.results36,go_sem, *]) rfl ⟨rfl,BW.out⟩

end Go.Proofs.YtlphnfajhpkleaaDoor
