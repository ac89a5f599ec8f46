/-
  A sum that is not there, or that New did not make: Write and Hash.
-/
import Derived.Test.YtkmjfaaelkmnkaaDoorProg
import Derived.Test.YtkmjfaaelkmnkaaDoorLaw
namespace Go.Proofs.YtkmjfaaelkmnkaaDoor
open Go.RowKit
set_option linter.unusedSimpArgs false
set_option linter.unusedVariables false

/-- there is none, or its first cell says so -/
def Gone (w : World) (v : Value) : Prop := v = .pointer none ∨ ∃ g, v = .pointer (some ⟨g, 0, none⟩) ∧ w.cell? ⟨g, 0, none⟩ = some (.bool false)
theorem absent_yes (v : Value) (w : World) (h : Gone w v) :
    Calls Tryd.prog 31 #[v] w fun e w' => e = .returned (.bool true) ∧ w = w' := by
  rcases h with rfl | ⟨g, rfl, h⟩
  · go_enter Tryd.func31, Tryd.ntmps31
    go_wp2
    go_ret
    exact ⟨rfl, rfl⟩
  · go_enter Tryd.func31, Tryd.ntmps31
    go_wp2
    go_ret
    exact ⟨rfl, rfl⟩
theorem absent_no (g : Nat) (w : World) (h : w.cell? ⟨g, 0, none⟩ = some (.bool true)) :
    Calls Tryd.prog 31 #[.pointer (some ⟨g, 0, none⟩)] w fun e w' => e = .returned (.bool false) ∧ w = w' := by
  go_enter Tryd.func31, Tryd.ntmps31
  go_wp2
  go_ret
  exact ⟨rfl, rfl⟩
theorem write_gone (v : Value) (A : Option Addr) (n c : Nat) (w : World) (h : Gone w v) :
    Calls Tryd.prog 11 #[v, .slice A n c] w fun e w' => e = .returned (.int .i64 2) ∧ w = w' := by
  have C := Lib.hid (absent_yes v w h)
  clear h
  go_enter Tryd.func11, Tryd.ntmps11
  go_wp2_with (go_at_call 31; refine C.out.mono ?_; rintro e w' ⟨rfl, rfl⟩)
  go_ret
  exact ⟨rfl, rfl⟩
theorem Gone.on {v : Value} {w w' : World} (h : Gone w v) (hb : Below w.heap.size w w') : Gone w' v := by
  rcases h with rfl | ⟨g, rfl, h⟩
  · exact .inl rfl
  · exact .inr ⟨g, rfl, cell_on hb h⟩
theorem zero_hash : (Tryd.prog.info? 28).map (·.zero) = some (some (.agg (bs (List.replicate 32 0)).toArray)) := by kernel_rfl
theorem size_hash : (Tryd.prog.info? 28).map (·.size) = some 32 := by kernel_rfl
theorem under_hash : Tryd.prog.underlying 28 = some (.array 32 5) := by kernel_rfl
set_option maxRecDepth 100000 in
theorem hash_gone (v : Value) (w : World) (h : Gone w v) :
    Calls Tryd.prog 10 #[v] w fun e w' => e = .returned (.agg (bs (List.replicate 32 0)).toArray) ∧ Below w.heap.size w w' := by
  go_enter Tryd.func10, Tryd.ntmps10
  go_wp2_with (refine law_alloc (ty := 28) _ zero_hash ?_; intro w1 N1)
  refine (absent_yes v w1 (h.on N1.bel)).mono ?_
  rintro e w' ⟨rfl, rfl⟩
  have L1 := N1.at_
  have B1 := N1.bel
  clear N1 h
  go_wp2_with (refine law_store (ty := 28) w.heap.size 0 28 (bs (List.replicate 32 0)).toArray (bs (List.replicate 32 0)) (by rfl) (by rfl) L1 (by simp [bs]) (by rw [size_hash]; simp [bs]) (bs_one _) ?_; intro w2 P2)
  have L2 := P2.at_
  rw [put_all _ _ rfl] at L2
  refine ret_cell (ty := 28) rfl w.heap.size _ (bs (List.replicate 32 0)) _ rfl L2 under_hash rfl (by rw [size_hash]; simp [bs]) rfl ⟨rfl, B1.grown P2.grown (by have := B1.size; omega) (by simp)⟩
end Go.Proofs.YtkmjfaaelkmnkaaDoor

