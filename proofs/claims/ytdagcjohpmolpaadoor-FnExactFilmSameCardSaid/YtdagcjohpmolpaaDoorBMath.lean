/-
  Vectors, four numbers, matrices, directions as plain mathematics.
-/
import Derived.Test.YtdagcjohpmolpaaDoorBMathA
import Derived.Test.YtdagcjohpmolpaaDoorBSpecV
namespace Go.Proofs.YtdagcjohpmolpaaDoor
open Go.ChangeShapes Go.WideShapes Go.ChangeAt Go.RowKit
set_option linter.unusedVariables false

end Go.Proofs.YtdagcjohpmolpaaDoor
