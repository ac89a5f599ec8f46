/-
  What the row's condition says of the two tables, as the walk reads them.
-/
import Derived.Test.YtkmjfaaelkmnkaaDoorRows
import Derived.Lib.LaidTab
import Derived.LaidSub
import Derived.Test.YtkmjfaaelkmnkaaDoorMTaken
namespace Go.Proofs.YtkmjfaaelkmnkaaDoor
open Go.RowKit
set_option linter.unusedSimpArgs false
set_option linter.unusedVariables false

def zcubes : List Int := cubes.map fun x : Nat => (x : Int)
def zinit : List Int := init.list.map fun x : Nat => (x : Int)
theorem tabs_of {W : World} (h : laidMet Tryd.prog [("balefire/shas.cubes", Rows.laid_balefire_shas_cubes), ("balefire/shas.squares", Rows.laid_balefire_shas_squares)] W) : Tabs W := by
  have h1 : laidMet Tryd.prog (("balefire/shas.cubes", Lib.tabData .u32 zcubes) :: [("balefire/shas.squares", Rows.laid_balefire_shas_squares)]) W := h
  have h2 : laidMet Tryd.prog (("balefire/shas.squares", Lib.tabData .u32 zinit) :: []) W := h.filter (fun x => x.1 == "balefire/shas.squares")
  have t1 := Lib.tabIs_of_head (g := 1) (t := 88) (e := 62) (n := 64) (by kernel_rfl) (by kernel_rfl) Tryd.underlying88 Tryd.underlying62 (by kernel_rfl) (by kernel_rfl) h1
  have t2 := Lib.tabIs_of_head (g := 0) (t := 64) (e := 62) (n := 8) (by kernel_rfl) (by kernel_rfl) Tryd.underlying64 Tryd.underlying62 (by kernel_rfl) (by kernel_rfl) h2
  refine ⟨fun i hi => ?_, fun j v hv => ?_⟩
  · have := t1.cell (g := 1) (by kernel_rfl) i (by simp [zcubes, cubes_len]; exact hi)
    rw [this]
    simp [zcubes, List.getD]
    rw [List.getElem?_eq_getElem (by rw [cubes_len]; exact hi)]; rfl
  · have hj : j < 8 := by have := (List.getElem?_eq_some_iff.1 hv).1; simpa [hs_len, St.list] using this
    have := t2.cell (g := 0) (by kernel_rfl) j (by simp [zinit, St.list]; exact hj)
    rw [Nat.zero_add, this]
    match j, hj, hv with
    | 0, _, hv | 1, _, hv | 2, _, hv | 3, _, hv | 4, _, hv | 5, _, hv | 6, _, hv | 7, _, hv => exact hv
end Go.Proofs.YtkmjfaaelkmnkaaDoor
