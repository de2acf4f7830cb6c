/-
  Memory: a whole block that is read at once, its values under one letter.
-/
import Derived.Test.YtkdkeacfifjjoabGreatDoorBMem
import Derived.Deep.MidRow
import Derived.KernelRfl
namespace Go.Proofs.YtkdkeacfifjjoabGreatDoor
open Go.ChangeShapes Go.WideShapes Go.ChangeAt Go.RowKit
set_option linter.unusedVariables false

end Go.Proofs.YtkdkeacfifjjoabGreatDoor
