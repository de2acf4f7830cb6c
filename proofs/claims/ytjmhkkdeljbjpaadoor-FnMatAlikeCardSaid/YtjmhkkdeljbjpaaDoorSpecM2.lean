/-
  The model: matrices: vectors, determinants.
-/
import Derived.Test.YtjmhkkdeljbjpaaDoorSpecM1
namespace Go.Proofs.YtjmhkkdeljbjpaaDoor
open Go.ChangeShapes Go.WideShapes Go.ChangeAt Go.RowKit
set_option linter.unusedVariables false

end Go.Proofs.YtjmhkkdeljbjpaaDoor
