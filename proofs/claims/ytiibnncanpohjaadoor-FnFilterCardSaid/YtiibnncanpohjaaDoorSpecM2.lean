/-
  The model: matrices: vectors, determinants.
-/
import Derived.Test.YtiibnncanpohjaaDoorSpecM1
namespace Go.Proofs.YtiibnncanpohjaaDoor
open Go.ChangeShapes Go.WideShapes Go.ChangeAt Go.RowKit
set_option linter.unusedVariables false

end Go.Proofs.YtiibnncanpohjaaDoor
