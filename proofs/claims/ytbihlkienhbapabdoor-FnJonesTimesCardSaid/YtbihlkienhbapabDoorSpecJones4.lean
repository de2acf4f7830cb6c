/-
  The model: alike vectors.
-/
import Derived.Test.YtbihlkienhbapabDoorSpecJones3
import Derived.Test.YtbihlkienhbapabDoorBlk
import Derived.Test.YtbihlkienhbapabDoorFracMath
import Derived.Deep.RegionHeld3
import Derived.Deep.RegionWith
import Derived.BigQuiet
namespace Go.Proofs.YtbihlkienhbapabDoor
open Go.ChangeShapes Go.WideShapes Go.ChangeAt Go.RowKit
set_option linter.unusedVariables false

def vbeq (o p : Option (Int × Int × Int)) : Bool := (partsR o).1 == (partsR p).1 && (partsR o).2.1 == (partsR p).2.1 && (partsR o).2.2 == (partsR p).2.2
def alikeF (x1 x2 x3 y1 y2 y3 a1 a2 a3 b1 b2 b3 : Int) : Bool := okR (timesF x1 x2 x3 b1 b2 b3) && okR (timesF y1 y2 y3 a1 a2 a3) && vbeq (timesF x1 x2 x3 b1 b2 b3) (timesF y1 y2 y3 a1 a2 a3) && (darkB x1 x2 x3 y1 y2 y3 == darkB a1 a2 a3 b1 b2 b3)
theorem alike_none1 {x1 x2 x3 y1 y2 y3 a1 a2 a3 b1 b2 b3 : Int} (h : timesF x1 x2 x3 b1 b2 b3 = none) : alikeF x1 x2 x3 y1 y2 y3 a1 a2 a3 b1 b2 b3 = false := by unfold alikeF; rw [h]; rfl
theorem alike_none2 {x1 x2 x3 y1 y2 y3 a1 a2 a3 b1 b2 b3 : Int} (h : timesF y1 y2 y3 a1 a2 a3 = none) : alikeF x1 x2 x3 y1 y2 y3 a1 a2 a3 b1 b2 b3 = false := by unfold alikeF; rw [h]; cases timesF x1 x2 x3 b1 b2 b3 <;> rfl
theorem alike_some {x1 x2 x3 y1 y2 y3 a1 a2 a3 b1 b2 b3 u1 u2 u3 v1 v2 v3 : Int} (h : timesF x1 x2 x3 b1 b2 b3 = some (u1, u2, u3)) (k : timesF y1 y2 y3 a1 a2 a3 = some (v1, v2, v3)) : alikeF x1 x2 x3 y1 y2 y3 a1 a2 a3 b1 b2 b3 = (u1 == v1 && u2 == v2 && u3 == v3 && (darkB x1 x2 x3 y1 y2 y3 == darkB a1 a2 a3 b1 b2 b3)) := by unfold alikeF vbeq; rw [h, k]; rfl
end Go.Proofs.YtbihlkienhbapabDoor
