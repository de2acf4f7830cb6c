/-
  Told fractions, their values written out.
-/
import Derived.Test.YtnfbopaafciiiabDoorImplVec3
namespace Go.Proofs.YtnfbopaafciiiabDoor
open Go.ChangeShapes Go.WideShapes Go.ChangeAt Go.RowKit
set_option linter.unusedVariables false

theorem toldF_ok (x y z : Int) (w : World) : Calls Tryd.prog 52 #[.agg #[.int .i64 x, .int .i64 y, .int .i64 z], .nilIface] w fun e w' => e = .returned (.tuple #[.agg #[.int .i64 x, .int .i64 y, .int .i64 z], .bool true]) ∧ Below w.heap.size w w' := toldFrac_ok x y z w
theorem toldF_err (x y z : Int) (s : ByteArray) (w : World) (hl : Laid w) : Calls Tryd.prog 52 #[.agg #[.int .i64 x, .int .i64 y, .int .i64 z], .iface 119 (.agg #[.string s])] w fun e w' => e = .returned (.tuple #[.agg #[.int .i64 0, .int .i64 0, .int .i64 0], .bool false]) ∧ Below w.heap.size w w' := toldFrac_err x y z s w hl
end Go.Proofs.YtnfbopaafciiiabDoor
