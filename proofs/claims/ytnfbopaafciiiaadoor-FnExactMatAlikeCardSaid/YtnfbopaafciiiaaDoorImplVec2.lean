/-
  The program's methods of vectors: mirror, powers, plus, times.
-/
import Derived.Test.YtnfbopaafciiiaaDoorImplBoth1
import Derived.Test.YtnfbopaafciiiaaDoorImplBoth2
import Derived.Test.YtnfbopaafciiiaaDoorImplBoth3
namespace Go.Proofs.YtnfbopaafciiiaaDoor
open Go.ChangeShapes Go.WideShapes Go.ChangeAt Go.RowKit
set_option linter.unusedVariables false

end Go.Proofs.YtnfbopaafciiiaaDoor
