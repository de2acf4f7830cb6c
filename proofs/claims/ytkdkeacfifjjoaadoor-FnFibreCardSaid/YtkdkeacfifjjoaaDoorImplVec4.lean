/-
  The program's sums of products of two, by slices.
-/
import Derived.Test.YtkdkeacfifjjoaaDoorBVec
import Derived.Deep.RegionHeld3
import Derived.KernelRfl
namespace Go.Proofs.YtkdkeacfifjjoaaDoor
open Go.ChangeShapes Go.WideShapes Go.ChangeAt Go.RowKit
set_option linter.unusedVariables false

set_option linter.unusedSimpArgs false
end Go.Proofs.YtkdkeacfifjjoaaDoor
