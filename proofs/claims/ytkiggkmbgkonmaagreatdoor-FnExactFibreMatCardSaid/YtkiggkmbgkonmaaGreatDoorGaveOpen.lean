/-
  Told results, their letters open.
-/
import Derived.Test.YtkiggkmbgkonmaaGreatDoorBSpecV
namespace Go.Proofs.YtkiggkmbgkonmaaGreatDoor
open Go.ChangeShapes Go.WideShapes Go.ChangeAt Go.RowKit
set_option linter.unusedVariables false

/-- The value of a told vector, its letters open. -/
theorem gave6_open (o : Option ((Int × Int × Int) × (Int × Int × Int))) : ∃ r1 r2 r3 r4 r5 r6 : Int, ∃ k : Bool, ∀ w e w', Gave6 o w e w' → e = .returned (.tuple #[.agg #[.int .i64 r1, .int .i64 r2, .int .i64 r3, .int .i64 r4, .int .i64 r5, .int .i64 r6], .bool k]) ∧ Below w.heap.size w w' := by
  cases o with
  | none => exact ⟨0, 0, 0, 0, 0, 0, false, fun w e w' h => ⟨h.2.1 rfl, h.2.2⟩⟩
  | some v =>
    obtain ⟨⟨u1, u2, u3⟩, v1, v2, v3⟩ := v
    exact ⟨u1, u2, u3, v1, v2, v3, true, fun w e w' h => ⟨h.1 _ _ _ _ _ _ rfl, h.2.2⟩⟩
theorem gave3_open (o : Option (Int × Int × Int)) : ∃ r1 r2 r3 : Int, ∃ k : Bool, ∀ w e w', Gave o w e w' → e = .returned (.tuple #[.agg #[.int .i64 r1, .int .i64 r2, .int .i64 r3], .bool k]) ∧ Below w.heap.size w w' := by
  cases o with
  | none => exact ⟨0, 0, 0, false, fun w e w' h => h⟩
  | some v =>
    obtain ⟨u1, u2, u3⟩ := v
    exact ⟨u1, u2, u3, true, fun w e w' h => h⟩
end Go.Proofs.YtkiggkmbgkonmaaGreatDoor
