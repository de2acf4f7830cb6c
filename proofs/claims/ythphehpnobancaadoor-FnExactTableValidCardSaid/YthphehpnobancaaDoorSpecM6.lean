/-
  The model: plates, filters.
-/
import Derived.Test.YthphehpnobancaaDoorSpecM3
import Derived.Test.YthphehpnobancaaDoorSpecM5
namespace Go.Proofs.YthphehpnobancaaDoor
open Go.ChangeShapes Go.WideShapes Go.ChangeAt Go.RowKit
set_option linter.unusedVariables false

end Go.Proofs.YthphehpnobancaaDoor
