/-
  The program's functions over both places: times.
-/
import Derived.Test.YtnfbopaafciiiaaDoorImplVec
import Derived.Deep.RegionWith
namespace Go.Proofs.YtnfbopaafciiiaaDoor
open Go.ChangeShapes Go.WideShapes Go.ChangeAt Go.RowKit
set_option linter.unusedVariables false

end Go.Proofs.YtnfbopaafciiiaaDoor
