/-
  The model: plates, filters.
-/
import Derived.Test.YtkdkeacfifjjoaaDoorSpecM3
import Derived.Test.YtkdkeacfifjjoaaDoorSpecM5
namespace Go.Proofs.YtkdkeacfifjjoaaDoor
open Go.ChangeShapes Go.WideShapes Go.ChangeAt Go.RowKit
set_option linter.unusedVariables false

end Go.Proofs.YtkdkeacfifjjoaaDoor
