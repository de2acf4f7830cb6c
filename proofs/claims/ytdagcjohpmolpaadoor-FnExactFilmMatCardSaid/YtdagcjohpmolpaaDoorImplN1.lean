/-
  The program's four numbers: made, told in order.
-/
import Derived.Test.YtdagcjohpmolpaaDoorMapProg
namespace Go.Proofs.YtdagcjohpmolpaaDoor
open Go.ChangeShapes Go.WideShapes Go.ChangeAt Go.RowKit
set_option linter.unusedVariables false

end Go.Proofs.YtdagcjohpmolpaaDoor
