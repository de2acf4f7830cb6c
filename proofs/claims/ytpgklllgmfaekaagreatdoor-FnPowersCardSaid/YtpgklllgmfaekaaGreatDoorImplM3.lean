/-
  The program's exported functions of matrices.
-/
import Derived.Test.YtpgklllgmfaekaaGreatDoorImplM2
import Derived.Test.YtpgklllgmfaekaaGreatDoorBVec
namespace Go.Proofs.YtpgklllgmfaekaaGreatDoor
open Go.ChangeShapes Go.WideShapes Go.ChangeAt Go.RowKit
set_option linter.unusedVariables false

end Go.Proofs.YtpgklllgmfaekaaGreatDoor
