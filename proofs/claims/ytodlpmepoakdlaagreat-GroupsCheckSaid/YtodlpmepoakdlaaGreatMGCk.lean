import Derived.Deep.Cut
import Derived.Test.YtodlpmepoakdlaaGreatMGCk0
import Derived.Test.YtodlpmepoakdlaaGreatMSmall
namespace Go.Proofs.YtodlpmepoakdlaaGreat
set_option maxRecDepth 100000
set_option maxHeartbeats 8000000
open Go.RowKit
set_option linter.unusedSimpArgs false
set_option linter.unusedVariables false
attribute [local go_sem ↓] Go.wp_at_zero Go.wp_at_succ

theorem gck_0 (P Q G H N Y M Z lr cr ls cs ca cb : Nat) (z1 z2 : Int) (pr ps pa pb : Option Addr) (xs ys : List Nat) (w0 : World) (cz1 : ∀ u, Below w0.heap.size w0 u → Calls Tryz.prog 4 #[rv N Y (.slice pr lr cr)] u fun e w2 => e = .returned (.int .i64 z1) ∧ Below u.heap.size u w2) (h0 : 20000 < z1) : Calls Tryz.prog 3 #[grp P Q G H, r2v N Y (.slice pr lr cr) M Z (.slice ps ls cs), n2v (.slice pa xs.length ca) (.slice pb ys.length cb)] w0 fun e w' => e = .returned (.bool true) ∧ Below w0.heap.size w0 w' := by
 refine Kk (args := [grp P Q G H, r2v N Y (.slice pr lr cr) M Z (.slice ps ls cs), n2v (.slice pa xs.length ca) (.slice pb ys.length cb)]) Tryz.func3 rfl Tryz.ntmps3 (by rfl) fun a F HM => ?_
 repeat first|refine et1 ?_|refine eb1 ?_|refine ws1 ?_|refine wb1 ?_|refine wk1 ?_
 refine wp_region_lit ?_
 refine Jw F HM (Ja rfl _) rfl (by rfl) (Wc (F.ev rfl)) fun a w gg F HM => ?_
 refine Jw F HM (Ja rfl _) rfl (by rfl) (Jbx (F.ev rfl)) fun a w gr F HM => ?_
 refine Jw F HM (Ja rfl _) rfl (by rfl) (Jby (F.ev rfl)) fun a w gn F HM => ?_
 refine lxv (.bool false) F (Jk rfl) fun a F => ?_
 refine Jj ?_
 repeat first|refine et1 ?_|refine eb1 ?_|refine ws1 ?_|refine wb1 ?_|refine wk1 ?_
 refine wp_region_lit ?_
 refine lxv (.pointer (some ⟨gr, 0, none⟩)) F (Wv (F.ev rfl) rfl) fun a F => ?_
 refine lxv (rv N Y ((.slice pr lr cr))) F (Vz (F.ev rfl) (HM.get 1 rfl)) fun a F => ?_
 refine Jr F (Ja rfl _) rfl (by rfl) (Jl Tryz.func4 (by kernel_rfl) (by rfl) (.cons (F.ev rfl) .nil) _) (cz1 _ HM.bel) fun a w z F => ?_
 replace HM := HM.on z
 clear z
 refine lxv (.bool true) F (Kh (u := .int .i64 z1) (v := .int .i64 20000) (fun ρ hx hy => by simp only [execOp, hx, hy]; simp [go_sem]; omega) (F.ev rfl) rfl) fun a F => ?_
 refine lxv (.bool true) F (Jg (F.ev rfl)) fun a F => ?_
 refine lxp 17 true F fun a F => ?_
 refine lxp 17 true F fun a F => ?_
 refine lxp 17 true F fun a F => ?_
 refine lxp 17 true F fun a F => ?_
 refine lxv (.bool true) F (Js (b := true) (r := .bool true) (F.ev rfl) rfl (F.ev rfl) rfl) fun a F => ?_
 refine lxv (.bool true) F (Jg (F.ev rfl)) fun a F => ?_
 refine lxp 23 true F fun a F => ?_
 refine lxp 23 true F fun a F => ?_
 refine lxp 23 true F fun a F => ?_
 refine lxp 23 true F fun a F => ?_
 refine lxv (.bool true) F (Js (b := true) (r := .bool true) (F.ev rfl) rfl (F.ev rfl) rfl) fun a F => ?_
 refine lxv (.bool true) F (Jg (F.ev rfl)) fun a F => ?_
 refine lxp 29 true F fun a F => ?_
 refine lxp 29 true F fun a F => ?_
 refine lxp 29 true F fun a F => ?_
 refine lxp 29 true F fun a F => ?_
 refine lxv (.bool true) F (Js (b := true) (r := .bool true) (F.ev rfl) rfl (F.ev rfl) rfl) fun a F => ?_
 refine Jj ?_
 repeat first|refine et1 ?_|refine eb1 ?_|refine ws1 ?_|refine wb1 ?_|refine wk1 ?_
 refine wp_cond_true (F.ev rfl) ?_
 repeat first|refine et1 ?_|refine eb1 ?_|refine ws1 ?_|refine wb1 ?_|refine wk1 ?_
 refine wp_region_lit ?_
 refine lxv (.bool true) F (Jk rfl) fun a F => ?_
 refine Jj ?_
 repeat first|refine et1 ?_|refine eb1 ?_|refine ws1 ?_|refine wb1 ?_|refine wk1 ?_
 refine wp_ret ?_
 repeat (first | refine Jt ?_ | refine Jp ?_)
 exact Ki F HM (Kf F rfl (s := 6) rfl)

theorem gck_1 (P Q G H N Y M Z lr cr ls cs ca cb : Nat) (z1 z2 : Int) (pr ps pa pb : Option Addr) (xs ys : List Nat) (w0 : World) (cz1 : ∀ u, Below w0.heap.size w0 u → Calls Tryz.prog 4 #[rv N Y (.slice pr lr cr)] u fun e w2 => e = .returned (.int .i64 z1) ∧ Below u.heap.size u w2) (cz2 : ∀ u, Below w0.heap.size w0 u → Calls Tryz.prog 4 #[rv M Z (.slice ps ls cs)] u fun e w2 => e = .returned (.int .i64 z2) ∧ Below u.heap.size u w2) (h0 : ¬ 20000 < z1) (h1 : 20000 < z2) : Calls Tryz.prog 3 #[grp P Q G H, r2v N Y (.slice pr lr cr) M Z (.slice ps ls cs), n2v (.slice pa xs.length ca) (.slice pb ys.length cb)] w0 fun e w' => e = .returned (.bool true) ∧ Below w0.heap.size w0 w' := by
 refine Kk (args := [grp P Q G H, r2v N Y (.slice pr lr cr) M Z (.slice ps ls cs), n2v (.slice pa xs.length ca) (.slice pb ys.length cb)]) Tryz.func3 rfl Tryz.ntmps3 (by rfl) fun a F HM => ?_
 repeat first|refine et1 ?_|refine eb1 ?_|refine ws1 ?_|refine wb1 ?_|refine wk1 ?_
 refine wp_region_lit ?_
 refine Jw F HM (Ja rfl _) rfl (by rfl) (Wc (F.ev rfl)) fun a w gg F HM => ?_
 refine Jw F HM (Ja rfl _) rfl (by rfl) (Jbx (F.ev rfl)) fun a w gr F HM => ?_
 refine Jw F HM (Ja rfl _) rfl (by rfl) (Jby (F.ev rfl)) fun a w gn F HM => ?_
 refine lxv (.bool false) F (Jk rfl) fun a F => ?_
 refine Jj ?_
 repeat first|refine et1 ?_|refine eb1 ?_|refine ws1 ?_|refine wb1 ?_|refine wk1 ?_
 refine wp_region_lit ?_
 refine lxv (.pointer (some ⟨gr, 0, none⟩)) F (Wv (F.ev rfl) rfl) fun a F => ?_
 refine lxv (rv N Y ((.slice pr lr cr))) F (Vz (F.ev rfl) (HM.get 1 rfl)) fun a F => ?_
 refine Jr F (Ja rfl _) rfl (by rfl) (Jl Tryz.func4 (by kernel_rfl) (by rfl) (.cons (F.ev rfl) .nil) _) (cz1 _ HM.bel) fun a w z F => ?_
 replace HM := HM.on z
 clear z
 refine lxv (.bool false) F (Kh (u := .int .i64 z1) (v := .int .i64 20000) (fun ρ hx hy => by simp only [execOp, hx, hy]; simp [go_sem]; omega) (F.ev rfl) rfl) fun a F => ?_
 refine lxv (.bool false) F (Jg (F.ev rfl)) fun a F => ?_
 refine lxw 17 false (.pointer (some ⟨gr, 9, none⟩)) F (Xs (F.ev rfl) rfl) fun a F => ?_
 refine lxw 17 false (rv M Z ((.slice ps ls cs))) F (Wp (F.ev rfl) (HM.get 1 rfl)) fun a F => ?_
 refine Jr F (F.want (t := 17) (c := false) rfl rfl rfl (by rfl) rfl) rfl (by rfl) (Jl Tryz.func4 (by kernel_rfl) (by rfl) (.cons (F.ev rfl) .nil) _) (cz2 _ HM.bel) fun a w z F => ?_
 replace HM := HM.on z
 clear z
 refine lxw 17 false (.bool true) F (Kh (u := .int .i64 z2) (v := .int .i64 20000) (fun ρ hx hy => by simp only [execOp, hx, hy]; simp [go_sem]; omega) (F.ev rfl) rfl) fun a F => ?_
 refine lxv (.bool true) F (Js (b := false) (r := .bool true) (F.ev rfl) rfl (F.ev rfl) rfl) fun a F => ?_
 refine lxv (.bool true) F (Jg (F.ev rfl)) fun a F => ?_
 refine lxp 23 true F fun a F => ?_
 refine lxp 23 true F fun a F => ?_
 refine lxp 23 true F fun a F => ?_
 refine lxp 23 true F fun a F => ?_
 refine lxv (.bool true) F (Js (b := true) (r := .bool true) (F.ev rfl) rfl (F.ev rfl) rfl) fun a F => ?_
 refine lxv (.bool true) F (Jg (F.ev rfl)) fun a F => ?_
 refine lxp 29 true F fun a F => ?_
 refine lxp 29 true F fun a F => ?_
 refine lxp 29 true F fun a F => ?_
 refine lxp 29 true F fun a F => ?_
 refine lxv (.bool true) F (Js (b := true) (r := .bool true) (F.ev rfl) rfl (F.ev rfl) rfl) fun a F => ?_
 refine Jj ?_
 repeat first|refine et1 ?_|refine eb1 ?_|refine ws1 ?_|refine wb1 ?_|refine wk1 ?_
 refine wp_cond_true (F.ev rfl) ?_
 repeat first|refine et1 ?_|refine eb1 ?_|refine ws1 ?_|refine wb1 ?_|refine wk1 ?_
 refine wp_region_lit ?_
 refine lxv (.bool true) F (Jk rfl) fun a F => ?_
 refine Jj ?_
 repeat first|refine et1 ?_|refine eb1 ?_|refine ws1 ?_|refine wb1 ?_|refine wk1 ?_
 refine wp_ret ?_
 repeat (first | refine Jt ?_ | refine Jp ?_)
 exact Ki F HM (Kf F rfl (s := 6) rfl)

theorem gck_2 (P Q G H N Y M Z lr cr ls cs ca cb : Nat) (z1 z2 : Int) (pr ps pa pb : Option Addr) (xs ys : List Nat) (w0 : World) (cz1 : ∀ u, Below w0.heap.size w0 u → Calls Tryz.prog 4 #[rv N Y (.slice pr lr cr)] u fun e w2 => e = .returned (.int .i64 z1) ∧ Below u.heap.size u w2) (cz2 : ∀ u, Below w0.heap.size w0 u → Calls Tryz.prog 4 #[rv M Z (.slice ps ls cs)] u fun e w2 => e = .returned (.int .i64 z2) ∧ Below u.heap.size u w2) (h0 : ¬ 20000 < z1) (h1 : ¬ 20000 < z2) (h2 : 100 < xs.length) : Calls Tryz.prog 3 #[grp P Q G H, r2v N Y (.slice pr lr cr) M Z (.slice ps ls cs), n2v (.slice pa xs.length ca) (.slice pb ys.length cb)] w0 fun e w' => e = .returned (.bool true) ∧ Below w0.heap.size w0 w' := by
 refine Kk (args := [grp P Q G H, r2v N Y (.slice pr lr cr) M Z (.slice ps ls cs), n2v (.slice pa xs.length ca) (.slice pb ys.length cb)]) Tryz.func3 rfl Tryz.ntmps3 (by rfl) fun a F HM => ?_
 repeat first|refine et1 ?_|refine eb1 ?_|refine ws1 ?_|refine wb1 ?_|refine wk1 ?_
 refine wp_region_lit ?_
 refine Jw F HM (Ja rfl _) rfl (by rfl) (Wc (F.ev rfl)) fun a w gg F HM => ?_
 refine Jw F HM (Ja rfl _) rfl (by rfl) (Jbx (F.ev rfl)) fun a w gr F HM => ?_
 refine Jw F HM (Ja rfl _) rfl (by rfl) (Jby (F.ev rfl)) fun a w gn F HM => ?_
 refine lxv (.bool false) F (Jk rfl) fun a F => ?_
 refine Jj ?_
 repeat first|refine et1 ?_|refine eb1 ?_|refine ws1 ?_|refine wb1 ?_|refine wk1 ?_
 refine wp_region_lit ?_
 refine lxv (.pointer (some ⟨gr, 0, none⟩)) F (Wv (F.ev rfl) rfl) fun a F => ?_
 refine lxv (rv N Y ((.slice pr lr cr))) F (Vz (F.ev rfl) (HM.get 1 rfl)) fun a F => ?_
 refine Jr F (Ja rfl _) rfl (by rfl) (Jl Tryz.func4 (by kernel_rfl) (by rfl) (.cons (F.ev rfl) .nil) _) (cz1 _ HM.bel) fun a w z F => ?_
 replace HM := HM.on z
 clear z
 refine lxv (.bool false) F (Kh (u := .int .i64 z1) (v := .int .i64 20000) (fun ρ hx hy => by simp only [execOp, hx, hy]; simp [go_sem]; omega) (F.ev rfl) rfl) fun a F => ?_
 refine lxv (.bool false) F (Jg (F.ev rfl)) fun a F => ?_
 refine lxw 17 false (.pointer (some ⟨gr, 9, none⟩)) F (Xs (F.ev rfl) rfl) fun a F => ?_
 refine lxw 17 false (rv M Z ((.slice ps ls cs))) F (Wp (F.ev rfl) (HM.get 1 rfl)) fun a F => ?_
 refine Jr F (F.want (t := 17) (c := false) rfl rfl rfl (by rfl) rfl) rfl (by rfl) (Jl Tryz.func4 (by kernel_rfl) (by rfl) (.cons (F.ev rfl) .nil) _) (cz2 _ HM.bel) fun a w z F => ?_
 replace HM := HM.on z
 clear z
 refine lxw 17 false (.bool false) F (Kh (u := .int .i64 z2) (v := .int .i64 20000) (fun ρ hx hy => by simp only [execOp, hx, hy]; simp [go_sem]; omega) (F.ev rfl) rfl) fun a F => ?_
 refine lxv (.bool false) F (Js (b := false) (r := .bool false) (F.ev rfl) rfl (F.ev rfl) rfl) fun a F => ?_
 refine lxv (.bool false) F (Jg (F.ev rfl)) fun a F => ?_
 refine lxw 23 false (.pointer (some ⟨gn, 0, none⟩)) F (Xt (F.ev rfl) rfl) fun a F => ?_
 refine lxw 23 false (.slice pa xs.length ca) F (Wq (F.ev rfl) (HM.get 0 rfl)) fun a F => ?_
 refine lxw 23 false (.int .i64 (xs.length : Nat)) F (Vs (F.ev rfl)) fun a F => ?_
 refine lxw 23 false (.bool true) F (Kh (u := .int .i64 (xs.length : Nat)) (v := .int .i64 100) (fun ρ hx hy => by simp only [execOp, hx, hy]; simp [go_sem]; omega) (F.ev rfl) rfl) fun a F => ?_
 refine lxv (.bool true) F (Js (b := false) (r := .bool true) (F.ev rfl) rfl (F.ev rfl) rfl) fun a F => ?_
 refine lxv (.bool true) F (Jg (F.ev rfl)) fun a F => ?_
 refine lxp 29 true F fun a F => ?_
 refine lxp 29 true F fun a F => ?_
 refine lxp 29 true F fun a F => ?_
 refine lxp 29 true F fun a F => ?_
 refine lxv (.bool true) F (Js (b := true) (r := .bool true) (F.ev rfl) rfl (F.ev rfl) rfl) fun a F => ?_
 refine Jj ?_
 repeat first|refine et1 ?_|refine eb1 ?_|refine ws1 ?_|refine wb1 ?_|refine wk1 ?_
 refine wp_cond_true (F.ev rfl) ?_
 repeat first|refine et1 ?_|refine eb1 ?_|refine ws1 ?_|refine wb1 ?_|refine wk1 ?_
 refine wp_region_lit ?_
 refine lxv (.bool true) F (Jk rfl) fun a F => ?_
 refine Jj ?_
 repeat first|refine et1 ?_|refine eb1 ?_|refine ws1 ?_|refine wb1 ?_|refine wk1 ?_
 refine wp_ret ?_
 repeat (first | refine Jt ?_ | refine Jp ?_)
 exact Ki F HM (Kf F rfl (s := 6) rfl)

theorem gck_3 (P Q G H N Y M Z lr cr ls cs ca cb : Nat) (z1 z2 : Int) (pr ps pa pb : Option Addr) (xs ys : List Nat) (w0 : World) (cz1 : ∀ u, Below w0.heap.size w0 u → Calls Tryz.prog 4 #[rv N Y (.slice pr lr cr)] u fun e w2 => e = .returned (.int .i64 z1) ∧ Below u.heap.size u w2) (cz2 : ∀ u, Below w0.heap.size w0 u → Calls Tryz.prog 4 #[rv M Z (.slice ps ls cs)] u fun e w2 => e = .returned (.int .i64 z2) ∧ Below u.heap.size u w2) (h0 : ¬ 20000 < z1) (h1 : ¬ 20000 < z2) (h2 : ¬ 100 < xs.length) (h3 : 100 < ys.length) : Calls Tryz.prog 3 #[grp P Q G H, r2v N Y (.slice pr lr cr) M Z (.slice ps ls cs), n2v (.slice pa xs.length ca) (.slice pb ys.length cb)] w0 fun e w' => e = .returned (.bool true) ∧ Below w0.heap.size w0 w' := by
 refine Kk (args := [grp P Q G H, r2v N Y (.slice pr lr cr) M Z (.slice ps ls cs), n2v (.slice pa xs.length ca) (.slice pb ys.length cb)]) Tryz.func3 rfl Tryz.ntmps3 (by rfl) fun a F HM => ?_
 repeat first|refine et1 ?_|refine eb1 ?_|refine ws1 ?_|refine wb1 ?_|refine wk1 ?_
 refine wp_region_lit ?_
 refine Jw F HM (Ja rfl _) rfl (by rfl) (Wc (F.ev rfl)) fun a w gg F HM => ?_
 refine Jw F HM (Ja rfl _) rfl (by rfl) (Jbx (F.ev rfl)) fun a w gr F HM => ?_
 refine Jw F HM (Ja rfl _) rfl (by rfl) (Jby (F.ev rfl)) fun a w gn F HM => ?_
 refine lxv (.bool false) F (Jk rfl) fun a F => ?_
 refine Jj ?_
 repeat first|refine et1 ?_|refine eb1 ?_|refine ws1 ?_|refine wb1 ?_|refine wk1 ?_
 refine wp_region_lit ?_
 refine lxv (.pointer (some ⟨gr, 0, none⟩)) F (Wv (F.ev rfl) rfl) fun a F => ?_
 refine lxv (rv N Y ((.slice pr lr cr))) F (Vz (F.ev rfl) (HM.get 1 rfl)) fun a F => ?_
 refine Jr F (Ja rfl _) rfl (by rfl) (Jl Tryz.func4 (by kernel_rfl) (by rfl) (.cons (F.ev rfl) .nil) _) (cz1 _ HM.bel) fun a w z F => ?_
 replace HM := HM.on z
 clear z
 refine lxv (.bool false) F (Kh (u := .int .i64 z1) (v := .int .i64 20000) (fun ρ hx hy => by simp only [execOp, hx, hy]; simp [go_sem]; omega) (F.ev rfl) rfl) fun a F => ?_
 refine lxv (.bool false) F (Jg (F.ev rfl)) fun a F => ?_
 refine lxw 17 false (.pointer (some ⟨gr, 9, none⟩)) F (Xs (F.ev rfl) rfl) fun a F => ?_
 refine lxw 17 false (rv M Z ((.slice ps ls cs))) F (Wp (F.ev rfl) (HM.get 1 rfl)) fun a F => ?_
 refine Jr F (F.want (t := 17) (c := false) rfl rfl rfl (by rfl) rfl) rfl (by rfl) (Jl Tryz.func4 (by kernel_rfl) (by rfl) (.cons (F.ev rfl) .nil) _) (cz2 _ HM.bel) fun a w z F => ?_
 replace HM := HM.on z
 clear z
 refine lxw 17 false (.bool false) F (Kh (u := .int .i64 z2) (v := .int .i64 20000) (fun ρ hx hy => by simp only [execOp, hx, hy]; simp [go_sem]; omega) (F.ev rfl) rfl) fun a F => ?_
 refine lxv (.bool false) F (Js (b := false) (r := .bool false) (F.ev rfl) rfl (F.ev rfl) rfl) fun a F => ?_
 refine lxv (.bool false) F (Jg (F.ev rfl)) fun a F => ?_
 refine lxw 23 false (.pointer (some ⟨gn, 0, none⟩)) F (Xt (F.ev rfl) rfl) fun a F => ?_
 refine lxw 23 false (.slice pa xs.length ca) F (Wq (F.ev rfl) (HM.get 0 rfl)) fun a F => ?_
 refine lxw 23 false (.int .i64 (xs.length : Nat)) F (Vs (F.ev rfl)) fun a F => ?_
 refine lxw 23 false (.bool false) F (Kh (u := .int .i64 (xs.length : Nat)) (v := .int .i64 100) (fun ρ hx hy => by simp only [execOp, hx, hy]; simp [go_sem]; omega) (F.ev rfl) rfl) fun a F => ?_
 refine lxv (.bool false) F (Js (b := false) (r := .bool false) (F.ev rfl) rfl (F.ev rfl) rfl) fun a F => ?_
 refine lxv (.bool false) F (Jg (F.ev rfl)) fun a F => ?_
 refine lxw 29 false (.pointer (some ⟨gn, 1, none⟩)) F (Jap (F.ev rfl) rfl) fun a F => ?_
 refine lxw 29 false (.slice pb ys.length cb) F (Xh (F.ev rfl) (HM.get 0 rfl)) fun a F => ?_
 refine lxw 29 false (.int .i64 (ys.length : Nat)) F (Vs (F.ev rfl)) fun a F => ?_
 refine lxw 29 false (.bool true) F (Kh (u := .int .i64 (ys.length : Nat)) (v := .int .i64 100) (fun ρ hx hy => by simp only [execOp, hx, hy]; simp [go_sem]; omega) (F.ev rfl) rfl) fun a F => ?_
 refine lxv (.bool true) F (Js (b := false) (r := .bool true) (F.ev rfl) rfl (F.ev rfl) rfl) fun a F => ?_
 refine Jj ?_
 repeat first|refine et1 ?_|refine eb1 ?_|refine ws1 ?_|refine wb1 ?_|refine wk1 ?_
 refine wp_cond_true (F.ev rfl) ?_
 repeat first|refine et1 ?_|refine eb1 ?_|refine ws1 ?_|refine wb1 ?_|refine wk1 ?_
 refine wp_region_lit ?_
 refine lxv (.bool true) F (Jk rfl) fun a F => ?_
 refine Jj ?_
 repeat first|refine et1 ?_|refine eb1 ?_|refine ws1 ?_|refine wb1 ?_|refine wk1 ?_
 refine wp_ret ?_
 repeat (first | refine Jt ?_ | refine Jp ?_)
 exact Ki F HM (Kf F rfl (s := 6) rfl)

theorem gck_w (P Q G H N Y M Z lr cr ls cs ca cb : Nat) (z1 z2 : Int) (pr ps pa pb : Option Addr) (xs ys : List Nat) (w0 : World) (b : Bool) (cz1 : ∀ u, Below w0.heap.size w0 u → Calls Tryz.prog 4 #[rv N Y (.slice pr lr cr)] u fun e w2 => e = .returned (.int .i64 z1) ∧ Below u.heap.size u w2) (cz2 : ∀ u, Below w0.heap.size w0 u → Calls Tryz.prog 4 #[rv M Z (.slice ps ls cs)] u fun e w2 => e = .returned (.int .i64 z2) ∧ Below u.heap.size u w2) (cK : ∀ u, Below w0.heap.size w0 u → Calls Tryz.prog 8 #[grp P Q G H, rv N Y (.slice pr lr cr), rv M Z (.slice ps ls cs)] u fun e w2 => e = .returned (.bool b) ∧ Below u.heap.size u w2) (cR : ∀ u, Below w0.heap.size w0 u → Calls Tryz.prog 9 #[grp P Q G H, rv N Y (.slice pr lr cr), rv M Z (.slice ps ls cs)] u fun e w2 => e = .returned (.bool b) ∧ Below u.heap.size u w2) (hP : P < 2 ^ 256) (sA : NSl w0.heap.size w0 pa ca xs) (sB : NSl w0.heap.size w0 pb cb ys) (h0 : ¬ 20000 < z1) (h1 : ¬ 20000 < z2) (h2 : ¬ 100 < xs.length) (h3 : ¬ 100 < ys.length) : Calls Tryz.prog 3 #[grp P Q G H, r2v N Y (.slice pr lr cr) M Z (.slice ps ls cs), n2v (.slice pa xs.length ca) (.slice pb ys.length cb)] w0 fun e w' => e = .returned (.bool true) ∧ Below w0.heap.size w0 w' := by
 refine Kk (args := [grp P Q G H, r2v N Y (.slice pr lr cr) M Z (.slice ps ls cs), n2v (.slice pa xs.length ca) (.slice pb ys.length cb)]) Tryz.func3 rfl Tryz.ntmps3 (by rfl) fun a F HM => ?_
 repeat first|refine et1 ?_|refine eb1 ?_|refine ws1 ?_|refine wb1 ?_|refine wk1 ?_
 refine wp_region_lit ?_
 refine Jw F HM (Ja rfl _) rfl (by rfl) (Wc (F.ev rfl)) fun a w gg F HM => ?_
 refine Jw F HM (Ja rfl _) rfl (by rfl) (Jbx (F.ev rfl)) fun a w gr F HM => ?_
 refine Jw F HM (Ja rfl _) rfl (by rfl) (Jby (F.ev rfl)) fun a w gn F HM => ?_
 refine lxv (.bool false) F (Jk rfl) fun a F => ?_
 refine Jj ?_
 repeat first|refine et1 ?_|refine eb1 ?_|refine ws1 ?_|refine wb1 ?_|refine wk1 ?_
 refine wp_region_lit ?_
 refine lxv (.pointer (some ⟨gr, 0, none⟩)) F (Wv (F.ev rfl) rfl) fun a F => ?_
 refine lxv (rv N Y ((.slice pr lr cr))) F (Vz (F.ev rfl) (HM.get 1 rfl)) fun a F => ?_
 refine Jr F (Ja rfl _) rfl (by rfl) (Jl Tryz.func4 (by kernel_rfl) (by rfl) (.cons (F.ev rfl) .nil) _) (cz1 _ HM.bel) fun a w z F => ?_
 replace HM := HM.on z
 clear z
 refine lxv (.bool false) F (Kh (u := .int .i64 z1) (v := .int .i64 20000) (fun ρ hx hy => by simp only [execOp, hx, hy]; simp [go_sem]; omega) (F.ev rfl) rfl) fun a F => ?_
 refine lxv (.bool false) F (Jg (F.ev rfl)) fun a F => ?_
 refine lxw 17 false (.pointer (some ⟨gr, 9, none⟩)) F (Xs (F.ev rfl) rfl) fun a F => ?_
 refine lxw 17 false (rv M Z ((.slice ps ls cs))) F (Wp (F.ev rfl) (HM.get 1 rfl)) fun a F => ?_
 refine Jr F (F.want (t := 17) (c := false) rfl rfl rfl (by rfl) rfl) rfl (by rfl) (Jl Tryz.func4 (by kernel_rfl) (by rfl) (.cons (F.ev rfl) .nil) _) (cz2 _ HM.bel) fun a w z F => ?_
 replace HM := HM.on z
 clear z
 refine lxw 17 false (.bool false) F (Kh (u := .int .i64 z2) (v := .int .i64 20000) (fun ρ hx hy => by simp only [execOp, hx, hy]; simp [go_sem]; omega) (F.ev rfl) rfl) fun a F => ?_
 refine lxv (.bool false) F (Js (b := false) (r := .bool false) (F.ev rfl) rfl (F.ev rfl) rfl) fun a F => ?_
 refine lxv (.bool false) F (Jg (F.ev rfl)) fun a F => ?_
 refine lxw 23 false (.pointer (some ⟨gn, 0, none⟩)) F (Xt (F.ev rfl) rfl) fun a F => ?_
 refine lxw 23 false (.slice pa xs.length ca) F (Wq (F.ev rfl) (HM.get 0 rfl)) fun a F => ?_
 refine lxw 23 false (.int .i64 (xs.length : Nat)) F (Vs (F.ev rfl)) fun a F => ?_
 refine lxw 23 false (.bool false) F (Kh (u := .int .i64 (xs.length : Nat)) (v := .int .i64 100) (fun ρ hx hy => by simp only [execOp, hx, hy]; simp [go_sem]; omega) (F.ev rfl) rfl) fun a F => ?_
 refine lxv (.bool false) F (Js (b := false) (r := .bool false) (F.ev rfl) rfl (F.ev rfl) rfl) fun a F => ?_
 refine lxv (.bool false) F (Jg (F.ev rfl)) fun a F => ?_
 refine lxw 29 false (.pointer (some ⟨gn, 1, none⟩)) F (Jap (F.ev rfl) rfl) fun a F => ?_
 refine lxw 29 false (.slice pb ys.length cb) F (Xh (F.ev rfl) (HM.get 0 rfl)) fun a F => ?_
 refine lxw 29 false (.int .i64 (ys.length : Nat)) F (Vs (F.ev rfl)) fun a F => ?_
 refine lxw 29 false (.bool false) F (Kh (u := .int .i64 (ys.length : Nat)) (v := .int .i64 100) (fun ρ hx hy => by simp only [execOp, hx, hy]; simp [go_sem]; omega) (F.ev rfl) rfl) fun a F => ?_
 refine lxv (.bool false) F (Js (b := false) (r := .bool false) (F.ev rfl) rfl (F.ev rfl) rfl) fun a F => ?_
 refine Jj ?_
 repeat first|refine et1 ?_|refine eb1 ?_|refine ws1 ?_|refine wb1 ?_|refine wk1 ?_
 refine wp_cond_false (F.ev rfl) ?_
 repeat first|refine et1 ?_|refine eb1 ?_|refine ws1 ?_|refine wb1 ?_|refine wk1 ?_
 refine wp_region_lit ?_
 refine lxv (.pointer (some ⟨gn, 0, none⟩)) F (Xt (F.ev rfl) rfl) fun a F => ?_
 refine lxv (.slice pa xs.length ca) F (Wq (F.ev rfl) (HM.get 0 rfl)) fun a F => ?_
 refine lx_callE F (Ja rfl _) rfl (by rfl) (Jl Tryz.func5 (by kernel_rfl) (by rfl) (.cons (F.ev rfl) .nil) _) (twinN_any xs pa ca w (by omega) ((sA.below HM.bel).up2 HM.bel.size)) fun a w v1 hz F => ?_
 obtain ⟨t1, z⟩ := hz
 replace HM := HM.on z
 clear z
 refine lxv v1 F (Jk (F.ev rfl)) fun a F => ?_
 refine Jj ?_
 repeat first|refine et1 ?_|refine eb1 ?_|refine ws1 ?_|refine wb1 ?_|refine wk1 ?_
 refine wp_region_lit ?_
 refine lxv (.pointer (some ⟨gn, 1, none⟩)) F (Jap (F.ev rfl) rfl) fun a F => ?_
 refine lxv (.slice pb ys.length cb) F (Xh (F.ev rfl) (HM.get 0 rfl)) fun a F => ?_
 refine lx_callE F (Ja rfl _) rfl (by rfl) (Jl Tryz.func5 (by kernel_rfl) (by rfl) (.cons (F.ev rfl) .nil) _) (twinN_any ys pb cb w (by omega) ((sB.below HM.bel).up2 HM.bel.size)) fun a wS v2 hz F => ?_
 obtain ⟨t2, z⟩ := hz
 replace HM := HM.on z
 replace t1 := t1.on z
 clear z
 refine lxv v2 F (Jk (F.ev rfl)) fun a F => ?_
 refine Jj ?_
 have Hg := HM.get 2 rfl
 have Hr := HM.get 1 rfl
 have Hn := HM.get 0 rfl
 have HB := HM.bel
 replace sA := (sA.below HB).up2 HB.size
 replace sB := (sB.below HB).up2 HB.size
 replace cR := fun (u : World) (hu : Below wS.heap.size wS u) => cR u (HB.trans (hu.mono HB.size))
 replace cK := fun (u : World) (hu : Below wS.heap.size wS u) => cK u (HB.trans (hu.mono HB.size))
 clear HM cz1 cz2
 have HM := Mem.start wS
 have T1 := t1; have T2 := t2
 obtain ⟨g1, o1, c1, rfl, k1⟩ := t1
 obtain ⟨g2, o2, c2, rfl, k2⟩ := t2
 obtain ⟨V, er, cP, cQ⟩ := both_prod P Q G H xs ys _ _ pa pb c1 c2 ca cb wS hP (by omega) k1.pre k2.pre sA sB
 have cL1 := fun (u : World) (hu : Below wS.heap.size wS u) => leftN_any xs _ pa ca u (by omega) (T1.on hu) ((sA.below hu).up2 hu.size)
 have cL2 := fun (u : World) (hu : Below wS.heap.size wS u) => leftN_any ys _ pb cb u (by omega) (T2.on hu) ((sB.below hu).up2 hu.size)
 clear T1 T2 k1 k2 sA sB
 repeat first|refine et1 ?_|refine eb1 ?_|refine ws1 ?_|refine wb1 ?_|refine wk1 ?_
 refine wp_region_lit ?_
 refine lxv (grp P Q G H) F (Uj (F.ev rfl) (Hg.on HM.bel)) fun a F => ?_
 refine lxv (.slice (some ⟨g1, o1, none⟩) xs.length c1) F (Jg (F.ev rfl)) fun a F => ?_
 refine lxv (.slice (some ⟨g2, o2, none⟩) ys.length c2) F (Jg (F.ev rfl)) fun a F => ?_
 refine Jr F (Ja rfl _) rfl (by rfl) (Jl Tryz.func6 (by kernel_rfl) (by rfl) (.cons (F.ev rfl) (.cons (F.ev rfl) (.cons (F.ev rfl) .nil))) _) (cP _ HM.bel) fun a w z F => ?_
 replace HM := HM.on z
 clear z
 refine lxv (.tuple #[num V, .int .i64 er]) F (Jg (F.ev rfl)) fun a F => ?_
 refine lxv (num V) F (Jq (F.ev rfl) rfl) fun a F => ?_
 refine lxv (.int .i64 er) F (Jq (F.ev rfl) rfl) fun a F => ?_
 refine Jw F HM (Ja rfl _) rfl (by rfl) (Jy) fun a w gx F HM => ?_
 refine Kd F HM (Ja rfl _) rfl (k := 0) rfl (Ju (F.ev rfl) (F.ev rfl) (HM.get 0 rfl)) (M2 := [(gx, 24, ncs V)]) rfl fun w HM => ?_
 refine lxv (.int .i64 er) F (Jk (F.ev rfl)) fun a F => ?_
 refine Jj ?_
 repeat first|refine et1 ?_|refine eb1 ?_|refine ws1 ?_|refine wb1 ?_|refine wk1 ?_
 refine wp_region_lit ?_
 refine lxv (grp P Q G H) F (Uj (F.ev rfl) (Hg.on HM.bel)) fun a F => ?_
 refine lxv (.pointer (some ⟨gn, 0, none⟩)) F (Xt (F.ev rfl) rfl) fun a F => ?_
 refine lxv (.slice pa xs.length ca) F (Wq (F.ev rfl) (Hn.on HM.bel)) fun a F => ?_
 refine lxv (.pointer (some ⟨gn, 1, none⟩)) F (Jap (F.ev rfl) rfl) fun a F => ?_
 refine lxv (.slice pb ys.length cb) F (Xh (F.ev rfl) (Hn.on HM.bel)) fun a F => ?_
 refine Jr F (Ja rfl _) rfl (by rfl) (Jl Tryz.func7 (by kernel_rfl) (by rfl) (.cons (F.ev rfl) (.cons (F.ev rfl) (.cons (F.ev rfl) .nil))) _) (cQ _ HM.bel) fun a w z F => ?_
 replace HM := HM.on z
 clear z
 refine lxv (.tuple #[num V, .int .i64 er]) F (Jg (F.ev rfl)) fun a F => ?_
 refine lxv (num V) F (Jq (F.ev rfl) rfl) fun a F => ?_
 refine lxv (.int .i64 er) F (Jq (F.ev rfl) rfl) fun a F => ?_
 refine Jw F HM (Ja rfl _) rfl (by rfl) (Jy) fun a w gy F HM => ?_
 refine Kd F HM (Ja rfl _) rfl (k := 0) rfl (Ju (F.ev rfl) (F.ev rfl) (HM.get 0 rfl)) (M2 := [(gy, 24, ncs V), (gx, 24, ncs V)]) rfl fun w HM => ?_
 refine lxv (.int .i64 er) F (Jk (F.ev rfl)) fun a F => ?_
 refine Jj ?_
 repeat first|refine et1 ?_|refine eb1 ?_|refine ws1 ?_|refine wb1 ?_|refine wk1 ?_
 try simp only [List.append_eq, List.cons_append, List.nil_append]
 refine Kl [⟨0, 57, [], .val (grp P Q G H), true⟩,
   ⟨1, 58, [0], .val (.pointer (some ⟨gr, 0, none⟩)), true⟩,
   ⟨2, 59, [1], .val (rv N Y ((.slice pr lr cr))), true⟩,
   ⟨3, 60, [2], .val (.pointer (some ⟨gr, 9, none⟩)), true⟩,
   ⟨4, 61, [3], .val (rv M Z ((.slice ps ls cs))), true⟩,
   ⟨6, 63, [4], .val (grp P Q G H), true⟩,
   ⟨7, 64, [5], .val (.pointer (some ⟨gr, 0, none⟩)), true⟩,
   ⟨8, 65, [6], .val (rv N Y ((.slice pr lr cr))), true⟩,
   ⟨9, 66, [7], .val (.pointer (some ⟨gr, 9, none⟩)), true⟩,
   ⟨10, 67, [8], .val (rv M Z ((.slice ps ls cs))), true⟩,
   ⟨5, 62, [0, 2, 4, 9], .val (.bool b), false⟩,
   ⟨11, 68, [5, 7, 9, 10], .val (.bool b), false⟩,
   ⟨12, 69, [10, 11], .val (.bool true), true⟩,
   ⟨13, 70, [12], .val (.bool true), true⟩,
   ⟨14, 71, [13], .val (num V), true⟩,
   ⟨15, 72, [13, 14], .val (num V), true⟩,
   ⟨16, 73, [13, 14, 15], .val (.bool true), true⟩,
   ⟨17, 74, [13, 16], .val (.bool true), true⟩,
   ⟨18, 75, [17], .val (.bool true), true⟩,
   ⟨19, 76, [18], .val (.int .i64 er), true⟩,
   ⟨20, 77, [18, 19], .val (.int .i64 er), true⟩,
   ⟨21, 78, [18, 19, 20], .val (.bool true), true⟩,
   ⟨22, 79, [18, 21], .val (.bool true), true⟩,
   ⟨23, 80, [22], .val (.bool true), true⟩,
   ⟨24, 81, [23], .val (.slice (some ⟨g1, o1, none⟩) xs.length c1), true⟩,
   ⟨25, 82, [23, 24], .val (.pointer (some ⟨gn, 0, none⟩)), true⟩,
   ⟨26, 83, [23, 25], .val (.slice pa xs.length ca), true⟩,
   ⟨27, 84, [23, 24, 26], .val (.bool true), false⟩,
   ⟨28, 85, [23, 27], .val (.bool true), true⟩,
   ⟨29, 86, [28], .val (.bool true), true⟩,
   ⟨30, 87, [29], .val (.slice (some ⟨g2, o2, none⟩) ys.length c2), true⟩,
   ⟨31, 88, [29, 30], .val (.pointer (some ⟨gn, 1, none⟩)), true⟩,
   ⟨32, 89, [29, 31], .val (.slice pb ys.length cb), true⟩,
   ⟨33, 90, [29, 30, 32], .val (.bool true), false⟩,
   ⟨34, 91, [29, 33], .val (.bool true), true⟩] 1 F HM (by kernel_rfl) (by rfl) (by rfl) ?_ ?_ ?_ ?_ ?_ ?_ ?_
 ·kernel_rfl
 ·exact of_decide_eq_true (by kernel_rfl)
 ·(repeat refine all_cons ⟨_, by rfl, by rfl⟩ ?_); exact Je
 ·kernel_rfl
 ·(repeat (refine all_cons ?_ ?_; rotate_left)); exact Je
  all_goals try exact Ji _ (by rfl)
  ·exact Jz _ _ _ _ _ _ _ (by rfl) (by rfl) (Jc) (fun ρ w kn hs => Uj (kn _ _ (F.old (by rfl) rfl)) (Hg.on hs.bel))
  ·exact Jz _ _ _ _ _ _ _ (by rfl) (by rfl) (Jc) (fun ρ w kn hs => Wv (kn _ _ (F.old (by rfl) rfl)) (kn _ _ (Jd _)))
  ·exact Jz _ _ _ _ _ _ _ (by rfl) (by rfl) (Jc) (fun ρ w kn hs => Vz (kn _ _ (kc 1 58)) (Hr.on hs.bel))
  ·exact Jz _ _ _ _ _ _ _ (by rfl) (by rfl) (Jc) (fun ρ w kn hs => Xs (kn _ _ (F.old (by rfl) rfl)) (kn _ _ (Jd _)))
  ·exact Jz _ _ _ _ _ _ _ (by rfl) (by rfl) (Jc) (fun ρ w kn hs => Wp (kn _ _ (kc 3 60)) (Hr.on hs.bel))
  ·exact Jz _ _ _ _ _ _ _ (by rfl) (by rfl) (Jc) (fun ρ w kn hs => Uj (kn _ _ (F.old (by rfl) rfl)) (Hg.on hs.bel))
  ·exact Jz _ _ _ _ _ _ _ (by rfl) (by rfl) (Jc) (fun ρ w kn hs => Wv (kn _ _ (F.old (by rfl) rfl)) (kn _ _ (Jd _)))
  ·exact Jz _ _ _ _ _ _ _ (by rfl) (by rfl) (Jc) (fun ρ w kn hs => Vz (kn _ _ (kc 6 64)) (Hr.on hs.bel))
  ·exact Jz _ _ _ _ _ _ _ (by rfl) (by rfl) (Jc) (fun ρ w kn hs => Xs (kn _ _ (F.old (by rfl) rfl)) (kn _ _ (Jd _)))
  ·exact Jz _ _ _ _ _ _ _ (by rfl) (by rfl) (Jc) (fun ρ w kn hs => Wp (kn _ _ (kc 8 66)) (Hr.on hs.bel))
  ·exact Jz _ _ _ _ _ _ _ (by rfl) (by rfl) (Jc) (fun ρ w kn hs => Kh (u := .bool b) (v := .bool b) (fun ρ hx hy => by simp only [execOp, hx, hy]; simp [go_sem]) (kn _ _ (kc 10 62)) (kn _ _ (kc 11 68)))
  ·exact Jz _ _ _ _ _ _ _ (by rfl) (by rfl) (Jc) (fun ρ w kn hs => Jg (kn _ _ (kc 12 69)))
  ·exact Jz _ _ _ _ _ _ _ (by rfl) (by rfl) (wc 13 70 13 (kc 13 70)) (fun ρ w kn hs => Jn (kn _ _ (F.old (by rfl) rfl)) (hs.get 1 rfl))
  ·exact Jz _ _ _ _ _ _ _ (by rfl) (by rfl) (wc 13 70 13 (kc 13 70)) (fun ρ w kn hs => Jn (kn _ _ (F.old (by rfl) rfl)) (hs.get 0 rfl))
  ·exact Jz _ _ _ _ _ _ _ (by rfl) (by rfl) (wc 13 70 13 (kc 13 70)) (fun ρ w kn hs => o_eqlS (kn _ _ (kc 14 71)) (kn _ _ (kc 15 72)))
  ·exact Jz _ _ _ _ _ _ _ (by rfl) (by rfl) (Jc) (fun ρ w kn hs => Js (b := true) (r := .bool true) (kn _ _ (kc 13 70)) (kn _ _ (kc 16 73)) (kn _ _ (Jd _)) rfl)
  ·exact Jz _ _ _ _ _ _ _ (by rfl) (by rfl) (Jc) (fun ρ w kn hs => Jg (kn _ _ (kc 17 74)))
  ·exact Jz _ _ _ _ _ _ _ (by rfl) (by rfl) (wc 18 75 18 (kc 18 75)) (fun ρ w kn hs => Jg (kn _ _ (F.old (by rfl) rfl)))
  ·exact Jz _ _ _ _ _ _ _ (by rfl) (by rfl) (wc 18 75 18 (kc 18 75)) (fun ρ w kn hs => Jg (kn _ _ (F.old (by rfl) rfl)))
  ·exact Jz _ _ _ _ _ _ _ (by rfl) (by rfl) (wc 18 75 18 (kc 18 75)) (fun ρ w kn hs => Kh (u := .int .i64 er) (v := .int .i64 er) (fun ρ hx hy => by simp only [execOp, hx, hy]; simp [go_sem]) (kn _ _ (kc 19 76)) (kn _ _ (kc 20 77)))
  ·exact Jz _ _ _ _ _ _ _ (by rfl) (by rfl) (Jc) (fun ρ w kn hs => Js (b := true) (r := .bool true) (kn _ _ (kc 18 75)) (kn _ _ (kc 21 78)) (kn _ _ (Jd _)) rfl)
  ·exact Jz _ _ _ _ _ _ _ (by rfl) (by rfl) (Jc) (fun ρ w kn hs => Jg (kn _ _ (kc 22 79)))
  ·exact Jz _ _ _ _ _ _ _ (by rfl) (by rfl) (wc 23 80 23 (kc 23 80)) (fun ρ w kn hs => Jg (kn _ _ (F.old (by rfl) rfl)))
  ·exact Jz _ _ _ _ _ _ _ (by rfl) (by rfl) (wc 23 80 23 (kc 23 80)) (fun ρ w kn hs => Xt (kn _ _ (F.old (by rfl) rfl)) (kn _ _ (Jd _)))
  ·exact Jz _ _ _ _ _ _ _ (by rfl) (by rfl) (wc 23 80 23 (kc 23 80)) (fun ρ w kn hs => Wq (kn _ _ (kc 25 82)) (Hn.on hs.bel))
  ·exact Jz _ _ _ _ _ _ _ (by rfl) (by rfl) (Jc) (fun ρ w kn hs => Js (b := true) (r := .bool true) (kn _ _ (kc 23 80)) (kn _ _ (kc 27 84)) (kn _ _ (Jd _)) rfl)
  ·exact Jz _ _ _ _ _ _ _ (by rfl) (by rfl) (Jc) (fun ρ w kn hs => Jg (kn _ _ (kc 28 85)))
  ·exact Jz _ _ _ _ _ _ _ (by rfl) (by rfl) (wc 29 86 29 (kc 29 86)) (fun ρ w kn hs => Jg (kn _ _ (F.old (by rfl) rfl)))
  ·exact Jz _ _ _ _ _ _ _ (by rfl) (by rfl) (wc 29 86 29 (kc 29 86)) (fun ρ w kn hs => Jap (kn _ _ (F.old (by rfl) rfl)) (kn _ _ (Jd _)))
  ·exact Jz _ _ _ _ _ _ _ (by rfl) (by rfl) (wc 29 86 29 (kc 29 86)) (fun ρ w kn hs => Xh (kn _ _ (kc 31 88)) (Hn.on hs.bel))
  ·exact Jz _ _ _ _ _ _ _ (by rfl) (by rfl) (Jc) (fun ρ w kn hs => Js (b := true) (r := .bool true) (kn _ _ (kc 29 86)) (kn _ _ (kc 33 90)) (kn _ _ (Jd _)) rfl)
 ·(repeat (refine all_cons ?_ ?_; rotate_left)); exact Je
  all_goals try exact Go.Proofs.YtodlpmepoakdlaaGreat.sA
  ·exact fun _ => Us _ 8 _ _ [.tmp 57, .tmp 59, .tmp 61] _ _ _ _ _ _ _ (by rfl) Tryz.func8 (by kernel_rfl) (by rfl) (by rfl) (Jc) (.cons (kc 0 57) (.cons (kc 2 59) (.cons (kc 4 61) .nil))) (fun u hb => cK u (bel_tr HM.bel hb))
  ·exact fun _ => Us _ 9 _ _ [.tmp 63, .tmp 65, .tmp 67] _ _ _ _ _ _ _ (by rfl) Tryz.func9 (by kernel_rfl) (by rfl) (by rfl) (Jc) (.cons (kc 5 63) (.cons (kc 7 65) (.cons (kc 9 67) .nil))) (fun u hb => cR u (bel_tr HM.bel hb))
  ·exact fun _ => Us _ 10 _ _ [.tmp 81, .tmp 83] _ _ _ _ _ _ _ (by rfl) Tryz.func10 (by kernel_rfl) (by rfl) (by rfl) (wc 23 80 23 (kc 23 80)) (.cons (kc 24 81) (.cons (kc 26 83) .nil)) (fun u hb => cL1 u (bel_tr HM.bel hb))
  ·exact fun _ => Us _ 10 _ _ [.tmp 87, .tmp 89] _ _ _ _ _ _ _ (by rfl) Tryz.func10 (by kernel_rfl) (by rfl) (by rfl) (wc 29 86 29 (kc 29 86)) (.cons (kc 30 87) (.cons (kc 32 89) .nil)) (fun u hb => cL2 u (bel_tr HM.bel hb))
 intro gs rs a w hgs hrs F HM
 obtain rfl := nl0 rs hrs
 clear hrs
 obtain rfl := nl0 gs hgs
 clear hgs
 refine Kx (i := 35) (d := 6) (x := .tmp 91) (v := .bool true) F (HM) (by kernel_rfl) (by rfl) (by rfl) (F.ev rfl) fun a F => ?_
 refine Kn (by kernel_rfl) ?_ _
 repeat first|refine et1 ?_|refine eb1 ?_|refine ws1 ?_|refine wb1 ?_|refine wk1 ?_
 refine wp_ret ?_
 repeat (first | refine Jt ?_ | refine Jp ?_)
 exact bodyPost_ret (Kf F rfl (s := 6) rfl) F.defers ⟨rfl, HB.trans (HM.bel.mono HB.size)⟩

theorem gck_walk (P Q G H : Nat) (r1 r2 : Pr.Rsn) (pr ps pa pb : Option Addr) (cr cs ca cb : Nat) (xs ys : List Nat) (w : World) (hP : P < 2 ^ 256) (hQ : Q < 2 ^ 256) (hG : G < 2 ^ 256) (hH : H < 2 ^ 256) (h1 : r1.n < 2 ^ 256) (h2 : r2.n < 2 ^ 256) (y1 : r1.w < 2 ^ 256) (y2 : r2.w < 2 ^ 256)
  (s1 : Sl w pr cr r1.ps) (s2 : Sl w ps cs r2.ps) (sA : NSl w.heap.size w pa ca xs) (sB : NSl w.heap.size w pb cb ys) : Calls Tryz.prog 3 #[grp P Q G H, r2v r1.n r1.w (.slice pr r1.ps.length cr) r2.n r2.w (.slice ps r2.ps.length cs), n2v (.slice pa xs.length ca) (.slice pb ys.length cb)] w fun e w' => e = .returned (.bool true) ∧ Below w.heap.size w w' := by
 have cz1 := fun (u : World) (hb : Below w.heap.size w u) => Jcp w _ r1 (Nat.le_refl _) pr cr u h1 y1 s1 hb
 have cz2 := fun (u : World) (hb : Below w.heap.size w u) => Jcp w _ r2 (Nat.le_refl _) ps cs u h2 y2 s2 hb
 have cK := fun (u : World) (hb : Below w.heap.size w u) => check8_any P Q G H r1 r2 pr ps cr cs u hP hQ hG hH h1 h2 y1 y2 (s1.on hb) (s2.on hb)
 have cR := fun (u : World) (hb : Below w.heap.size w u) => r8check_any P Q G H r1 r2 pr ps cr cs u hP hQ hG hH h1 h2 y1 y2 (s1.on hb) (s2.on hb)
 by_cases q0 : 20000 < szR r1
 ·exact gck_0 P Q G H _ _ _ _ _ cr _ cs ca cb _ 0 pr ps pa pb xs ys w cz1 q0
 by_cases q1 : 20000 < szR r2
 ·exact gck_1 P Q G H _ _ _ _ _ cr _ cs ca cb _ _ pr ps pa pb xs ys w cz1 cz2 q0 q1
 by_cases q2 : 100 < xs.length
 ·exact gck_2 P Q G H _ _ _ _ _ cr _ cs ca cb _ _ pr ps pa pb xs ys w cz1 cz2 q0 q1 q2
 by_cases q3 : 100 < ys.length
 ·exact gck_3 P Q G H _ _ _ _ _ cr _ cs ca cb _ _ pr ps pa pb xs ys w cz1 cz2 q0 q1 q2 q3
 exact gck_w P Q G H _ _ _ _ _ cr _ cs ca cb _ _ pr ps pa pb xs ys w _ cz1 cz2 cK cR hP sA sB q0 q1 q2 q3
end Go.Proofs.YtodlpmepoakdlaaGreat
