/-
  Comparisons; contracts with letters.
-/
import Derived.Test.YtdagcjohpmolpaaDoorEqVec
import Derived.Test.YtdagcjohpmolpaaDoorBMathA
import Derived.Test.YtdagcjohpmolpaaDoorBSpecV
import Derived.Test.YtdagcjohpmolpaaDoorBVec
import Derived.Test.YtdagcjohpmolpaaDoorBMath
import Derived.Test.YtdagcjohpmolpaaDoorBImplF
namespace Go.Proofs.YtdagcjohpmolpaaDoor
open Go.ChangeShapes Go.WideShapes Go.ChangeAt Go.RowKit
set_option linter.unusedVariables false

def eqM4 (x y : F4) : Bool := x == y
theorem eqM4_true {x y : F4} : eqM4 x y = true ↔ x = y := by unfold eqM4; simp
end Go.Proofs.YtdagcjohpmolpaaDoor
