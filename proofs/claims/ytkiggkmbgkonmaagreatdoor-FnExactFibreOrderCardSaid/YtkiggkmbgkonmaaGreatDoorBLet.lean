/-
  Comparisons; contracts with letters.
-/
import Derived.Test.YtkiggkmbgkonmaaGreatDoorEqVec
import Derived.Test.YtkiggkmbgkonmaaGreatDoorBMathA
import Derived.Test.YtkiggkmbgkonmaaGreatDoorBSpecV
import Derived.Test.YtkiggkmbgkonmaaGreatDoorBVec
import Derived.Test.YtkiggkmbgkonmaaGreatDoorBMath
import Derived.Test.YtkiggkmbgkonmaaGreatDoorBImplF
namespace Go.Proofs.YtkiggkmbgkonmaaGreatDoor
open Go.ChangeShapes Go.WideShapes Go.ChangeAt Go.RowKit
set_option linter.unusedVariables false

def eqM4 (x y : F4) : Bool := x == y
theorem eqM4_true {x y : F4} : eqM4 x y = true ↔ x = y := by unfold eqM4; simp
end Go.Proofs.YtkiggkmbgkonmaaGreatDoor
