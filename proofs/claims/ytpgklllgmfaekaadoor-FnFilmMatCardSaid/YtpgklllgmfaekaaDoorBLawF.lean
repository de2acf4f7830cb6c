/-
  What the exact laws do with fractions and vectors.
-/
import Derived.Test.YtpgklllgmfaekaaDoorBMem
namespace Go.Proofs.YtpgklllgmfaekaaDoor
open Go.ChangeShapes Go.WideShapes Go.ChangeAt Go.RowKit
set_option linter.unusedVariables false

end Go.Proofs.YtpgklllgmfaekaaDoor
