/-
  The model: matrices: diagonals, dark, lossless.
-/
import Derived.Test.YtkdkeacfifjjoabDoorSpecM1
import Derived.Test.YtkdkeacfifjjoabDoorBLet
import Derived.Deep.RegionHeld3
import Derived.Deep.QuietTactic
import Derived.BigQuiet
namespace Go.Proofs.YtkdkeacfifjjoabDoor
open Go.ChangeShapes Go.WideShapes Go.ChangeAt Go.RowKit
set_option linter.unusedVariables false

/-- A told matrix, its letters open. -/
theorem gaveM_open (o : Option F4) : ∃ a b c d : F3, ∃ k : Bool, (k = true → o = some (a, b, c, d)) ∧ (k = false → o = none) ∧ ∀ P f ar w, Calls P f ar w (Gave12 o w) → Calls P f ar w fun e w' => e = .returned (.tuple #[.agg #[.int .i64 a.1, .int .i64 a.2.1, .int .i64 a.2.2, .int .i64 b.1, .int .i64 b.2.1, .int .i64 b.2.2, .int .i64 c.1, .int .i64 c.2.1, .int .i64 c.2.2, .int .i64 d.1, .int .i64 d.2.1, .int .i64 d.2.2], .bool k]) ∧ Below w.heap.size w w' := by
  cases o with
  | none => exact ⟨(0, 0, 0), (0, 0, 0), (0, 0, 0), (0, 0, 0), false, (fun h => by cases h), fun _ => rfl, fun P f ar w c => c.mono fun e w' h => ⟨h.2.1 rfl, h.2.2⟩⟩
  | some v =>
    obtain ⟨a, b, c, d⟩ := v
    exact ⟨a, b, c, d, true, fun _ => rfl, (fun h => by cases h), fun P f ar w k => k.mono fun e w' h => ⟨h.1 _ _ _ _ _ _ _ _ _ _ _ _ rfl, h.2.2⟩⟩
end Go.Proofs.YtkdkeacfifjjoabDoor
