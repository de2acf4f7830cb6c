/-
  The model: four numbers: valid, squares, light, pure light.
-/
import Derived.Test.YtkdkeacfifjjoabGreatDoorBMathA
import Derived.Test.YtkdkeacfifjjoabGreatDoorBMem
import Derived.Test.YtkdkeacfifjjoabGreatDoorBSpecV
namespace Go.Proofs.YtkdkeacfifjjoabGreatDoor
open Go.ChangeShapes Go.WideShapes Go.ChangeAt Go.RowKit
set_option linter.unusedVariables false

theorem some_of {o : Option (Int × Int × Int)} {p q r : Int} (hp : partsR o = (p, q, r)) (hk : okR o = true) : o = some (p, q, r) := by
  cases o with
  | none => cases hk
  | some v => rw [← hp]; rfl
theorem none_of {o : Option (Int × Int × Int)} (hk : okR o = false) : o = none := by
  cases o with
  | none => rfl
  | some v => cases hk
end Go.Proofs.YtkdkeacfifjjoabGreatDoor
