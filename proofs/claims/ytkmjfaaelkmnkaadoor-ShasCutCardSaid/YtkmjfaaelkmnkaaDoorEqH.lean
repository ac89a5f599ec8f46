/-
  A hash is equal to itself.
-/
import Derived.Test.YtkmjfaaelkmnkaaDoorProg
import Derived.Test.YtkmjfaaelkmnkaaDoorLaw
namespace Go.Proofs.YtkmjfaaelkmnkaaDoor
open Go.RowKit
set_option linter.unusedSimpArgs false
set_option linter.unusedVariables false

set_option maxRecDepth 10000 in
theorem eqRaw (x0 x1 x2 x3 x4 x5 x6 x7 x8 x9 x10 x11 x12 x13 x14 x15 x16 x17 x18 x19 x20 x21 x22 x23 x24 x25 x26 x27 x28 x29 x30 x31 : Nat) (w : World) : (Op.equalIn 10000 28 (.agg #[.int .u8 (x0 : Int), .int .u8 (x1 : Int), .int .u8 (x2 : Int), .int .u8 (x3 : Int), .int .u8 (x4 : Int), .int .u8 (x5 : Int), .int .u8 (x6 : Int), .int .u8 (x7 : Int), .int .u8 (x8 : Int), .int .u8 (x9 : Int), .int .u8 (x10 : Int), .int .u8 (x11 : Int), .int .u8 (x12 : Int), .int .u8 (x13 : Int), .int .u8 (x14 : Int), .int .u8 (x15 : Int), .int .u8 (x16 : Int), .int .u8 (x17 : Int), .int .u8 (x18 : Int), .int .u8 (x19 : Int), .int .u8 (x20 : Int), .int .u8 (x21 : Int), .int .u8 (x22 : Int), .int .u8 (x23 : Int), .int .u8 (x24 : Int), .int .u8 (x25 : Int), .int .u8 (x26 : Int), .int .u8 (x27 : Int), .int .u8 (x28 : Int), .int .u8 (x29 : Int), .int .u8 (x30 : Int), .int .u8 (x31 : Int)]) (.agg #[.int .u8 (x0 : Int), .int .u8 (x1 : Int), .int .u8 (x2 : Int), .int .u8 (x3 : Int), .int .u8 (x4 : Int), .int .u8 (x5 : Int), .int .u8 (x6 : Int), .int .u8 (x7 : Int), .int .u8 (x8 : Int), .int .u8 (x9 : Int), .int .u8 (x10 : Int), .int .u8 (x11 : Int), .int .u8 (x12 : Int), .int .u8 (x13 : Int), .int .u8 (x14 : Int), .int .u8 (x15 : Int), .int .u8 (x16 : Int), .int .u8 (x17 : Int), .int .u8 (x18 : Int), .int .u8 (x19 : Int), .int .u8 (x20 : Int), .int .u8 (x21 : Int), .int .u8 (x22 : Int), .int .u8 (x23 : Int), .int .u8 (x24 : Int), .int .u8 (x25 : Int), .int .u8 (x26 : Int), .int .u8 (x27 : Int), .int .u8 (x28 : Int), .int .u8 (x29 : Int), .int .u8 (x30 : Int), .int .u8 (x31 : Int)])).run Tryd.prog w = .ok true w := by
  have u3 := Tryd.underlying5
  have a3 := Tryd.isAgg5
  have z3 := Tryd.sizeOf5
  rw [show (10000 : Nat) = 9999 + 1 from rfl, Op.equalIn]
  simp only [Sem.run_bind, run_underlying Tryd.underlying28, Result.andThen_ok]
  simp only [Std.Legacy.Range.forIn_eq_forIn_range', Std.Legacy.Range.size, Nat.sub_zero, Nat.add_sub_cancel, Nat.div_one, List.range'_succ, List.range'_zero, List.forIn_cons, List.forIn_nil]
  go_simp
theorem eqH (l : List Nat) (h : l.length = 32) (w : World) : (Op.equalIn 10000 28 (.agg (bs l).toArray) (.agg (bs l).toArray)).run Tryd.prog w = .ok true w := by
  match l, h with
  | [x0, x1, x2, x3, x4, x5, x6, x7, x8, x9, x10, x11, x12, x13, x14, x15, x16, x17, x18, x19, x20, x21, x22, x23, x24, x25, x26, x27, x28, x29, x30, x31], _ => exact eqRaw x0 x1 x2 x3 x4 x5 x6 x7 x8 x9 x10 x11 x12 x13 x14 x15 x16 x17 x18 x19 x20 x21 x22 x23 x24 x25 x26 x27 x28 x29 x30 x31 w
end Go.Proofs.YtkmjfaaelkmnkaaDoor
