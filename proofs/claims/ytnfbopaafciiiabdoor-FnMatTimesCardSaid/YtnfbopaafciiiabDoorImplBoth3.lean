/-
  The program's functions over both places: times.
-/
import Derived.Test.YtnfbopaafciiiabDoorImplVec
import Derived.Deep.RegionWith
namespace Go.Proofs.YtnfbopaafciiiabDoor
open Go.ChangeShapes Go.WideShapes Go.ChangeAt Go.RowKit
set_option linter.unusedVariables false

end Go.Proofs.YtnfbopaafciiiabDoor
