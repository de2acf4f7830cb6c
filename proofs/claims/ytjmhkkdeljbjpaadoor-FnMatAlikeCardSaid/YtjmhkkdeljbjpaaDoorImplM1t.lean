/-
  The program's closures of matrices: products.
-/
import Derived.Test.YtjmhkkdeljbjpaaDoorImplM1
import Derived.Deep.RegionHeld3
namespace Go.Proofs.YtjmhkkdeljbjpaaDoor
open Go.ChangeShapes Go.WideShapes Go.ChangeAt Go.RowKit
set_option linter.unusedVariables false

end Go.Proofs.YtjmhkkdeljbjpaaDoor
