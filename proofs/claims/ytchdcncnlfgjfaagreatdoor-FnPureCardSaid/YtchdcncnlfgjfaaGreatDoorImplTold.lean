/-
  Told fractions, their values written out.
-/
import Derived.Test.YtchdcncnlfgjfaaGreatDoorImplVec3
namespace Go.Proofs.YtchdcncnlfgjfaaGreatDoor
open Go.ChangeShapes Go.WideShapes Go.ChangeAt Go.RowKit
set_option linter.unusedVariables false

end Go.Proofs.YtchdcncnlfgjfaaGreatDoor
