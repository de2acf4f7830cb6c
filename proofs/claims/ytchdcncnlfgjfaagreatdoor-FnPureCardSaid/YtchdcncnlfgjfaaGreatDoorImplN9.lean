/-
  The program's mirrored four numbers.
-/
import Derived.Test.YtchdcncnlfgjfaaGreatDoorImplN3
import Derived.Test.YtchdcncnlfgjfaaGreatDoorImplN2
import Derived.Deep.RegionWith
namespace Go.Proofs.YtchdcncnlfgjfaaGreatDoor
open Go.ChangeShapes Go.WideShapes Go.ChangeAt Go.RowKit
set_option linter.unusedVariables false

end Go.Proofs.YtchdcncnlfgjfaaGreatDoor
