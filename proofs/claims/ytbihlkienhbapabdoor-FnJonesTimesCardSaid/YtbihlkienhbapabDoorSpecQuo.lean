/-
  The model: quotients of fractions.
-/
import Derived.Test.YtbihlkienhbapabDoorSpecOver
namespace Go.Proofs.YtbihlkienhbapabDoor
open Go.ChangeShapes Go.WideShapes Go.ChangeAt Go.RowKit
set_option linter.unusedVariables false

def overF (x y z a b c : Int) : Option (Int × Int × Int) :=
  if (okF x y z && okF a b c && !(decide (a = 0) && decide (b = 0))) = true then (turnedF a b c).bind fun r => timesF x y z r.1 r.2.1 r.2.2 else none

end Go.Proofs.YtbihlkienhbapabDoor
