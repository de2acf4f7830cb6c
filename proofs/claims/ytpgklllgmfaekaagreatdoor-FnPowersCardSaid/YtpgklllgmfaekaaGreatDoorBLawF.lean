/-
  What the exact laws do with fractions and vectors.
-/
import Derived.Test.YtpgklllgmfaekaaGreatDoorBMem
namespace Go.Proofs.YtpgklllgmfaekaaGreatDoor
open Go.ChangeShapes Go.WideShapes Go.ChangeAt Go.RowKit
set_option linter.unusedVariables false

end Go.Proofs.YtpgklllgmfaekaaGreatDoor
