/-
  The program's four numbers: valid or not.
-/
import Derived.Test.YtdagcjohpmolpaaDoorImplN1
namespace Go.Proofs.YtdagcjohpmolpaaDoor
open Go.ChangeShapes Go.WideShapes Go.ChangeAt Go.RowKit
set_option linter.unusedVariables false

end Go.Proofs.YtdagcjohpmolpaaDoor
