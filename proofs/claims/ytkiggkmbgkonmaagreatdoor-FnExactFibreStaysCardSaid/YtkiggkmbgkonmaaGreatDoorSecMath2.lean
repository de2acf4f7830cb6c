/-
  Fibres: run, order, stays, as plain functions.
-/
import Derived.Test.YtkiggkmbgkonmaaGreatDoorSecMath
import Derived.Test.YtkiggkmbgkonmaaGreatDoorBSpecV
namespace Go.Proofs.YtkiggkmbgkonmaaGreatDoor
open Go.ChangeShapes Go.WideShapes Go.ChangeAt Go.RowKit
set_option linter.unusedVariables false

set_option linter.unusedSimpArgs false
theorem runM_if (ls : List L4) (v : F3 × F3) : runM ls v = if okFb ls = true then (fbF ls (some oneM)).bind (fun m => appM m v) else none := by
  unfold runM fbM
  split <;> rfl
theorem ordM_if (ls : List L4) : ordM ls = if okFb ls = true then (fbF ls (some oneM)).bind (fun m => some (ordG m 24 m)) else none := by
  unfold ordM fbM
  split <;> rfl
def staM (ls : List L4) (x1 x2 x3 y1 y2 y3 : Int) : Bool := match runM ls ((x1, x2, x3), (y1, y2, y3)) with
  | some u => !darkB x1 x2 x3 y1 y2 y3 && alikeF x1 x2 x3 y1 y2 y3 u.1.1 u.1.2.1 u.1.2.2 u.2.1 u.2.2.1 u.2.2.2
  | none => false
theorem fbApp_ok {A : F4} {V r : F3 × F3} (h : appM A V = some r) : (okT r.1 = true ∧ okT r.2 = true) ∧ (okT V.1 = true ∧ okT V.2 = true) := by
  obtain ⟨a, b, c, d⟩ := A
  obtain ⟨x, y⟩ := V
  obtain ⟨u, v⟩ := r
  obtain ⟨e1, e2⟩ := appM_some h
  exact ⟨⟨(inT_val e1).2.2.2.2.1, (inT_val e2).2.2.2.2.1⟩, (inT_val e1).2.1, (inT_val e1).2.2.2.1⟩
theorem ordG_zero (m X : F4) : ordG m 0 X = 0 := rfl
theorem ordG_yes {m X : F4} {k : Nat} (h : alkM X oneM = true) : ordG m (k + 1) X = 24 - (k : Int) := by unfold ordG; rw [if_pos h]
theorem ordG_none {m X : F4} {k : Nat} (h : alkM X oneM = false) (e : mulM m X = none) : ordG m (k + 1) X = 0 := by unfold ordG; rw [h, e]; rfl
theorem ordG_some {m X Y : F4} {k : Nat} (h : alkM X oneM = false) (e : mulM m X = some Y) : ordG m (k + 1) X = ordG m k Y := by
  show (if alkM X oneM = true then 24 - (k : Int) else match mulM m X with | some Y => ordG m k Y | none => 0) = _
  rw [h, e]
  rfl
end Go.Proofs.YtkiggkmbgkonmaaGreatDoor
