/-
  Fibres: run, order, stays, as plain functions.
-/
import Derived.Test.YtkiggkmbgkonmaaGreatDoorBFib
import Derived.Test.YtkiggkmbgkonmaaGreatDoorBSpecV
namespace Go.Proofs.YtkiggkmbgkonmaaGreatDoor
open Go.ChangeShapes Go.WideShapes Go.ChangeAt Go.RowKit
set_option linter.unusedVariables false

set_option linter.unusedSimpArgs false
theorem ordM_if (ls : List L4) : ordM ls = if okFb ls = true then (fbF ls (some oneM)).bind (fun m => some (ordG m 24 m)) else none := by
  unfold ordM fbM
  split <;> rfl
theorem ordG_zero (m X : F4) : ordG m 0 X = 0 := rfl
theorem ordG_yes {m X : F4} {k : Nat} (h : alkM X oneM = true) : ordG m (k + 1) X = 24 - (k : Int) := by unfold ordG; rw [if_pos h]
theorem ordG_none {m X : F4} {k : Nat} (h : alkM X oneM = false) (e : mulM m X = none) : ordG m (k + 1) X = 0 := by unfold ordG; rw [h, e]; rfl
theorem ordG_some {m X Y : F4} {k : Nat} (h : alkM X oneM = false) (e : mulM m X = some Y) : ordG m (k + 1) X = ordG m k Y := by
  show (if alkM X oneM = true then 24 - (k : Int) else match mulM m X with | some Y => ordG m k Y | none => 0) = _
  rw [h, e]
  rfl
end Go.Proofs.YtkiggkmbgkonmaaGreatDoor
