/-
  The program's methods of vectors: mirror, powers, plus, times.
-/
import Derived.Test.YtnfbopaafciiiabDoorImplBoth1
import Derived.Test.YtnfbopaafciiiabDoorImplBoth2
import Derived.Test.YtnfbopaafciiiabDoorImplBoth3
namespace Go.Proofs.YtnfbopaafciiiabDoor
open Go.ChangeShapes Go.WideShapes Go.ChangeAt Go.RowKit
set_option linter.unusedVariables false

end Go.Proofs.YtnfbopaafciiiabDoor
