/-
  The program's exported functions of matrices.
-/
import Derived.Test.YtdagcjohpmolpaaDoorImplM2
import Derived.Test.YtdagcjohpmolpaaDoorBVec
namespace Go.Proofs.YtdagcjohpmolpaaDoor
open Go.ChangeShapes Go.WideShapes Go.ChangeAt Go.RowKit
set_option linter.unusedVariables false

end Go.Proofs.YtdagcjohpmolpaaDoor
