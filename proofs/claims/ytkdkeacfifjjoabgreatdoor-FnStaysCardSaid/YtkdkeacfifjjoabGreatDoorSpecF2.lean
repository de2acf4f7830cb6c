/-
  The model: a film's matrix.
-/
import Derived.Test.YtkdkeacfifjjoabGreatDoorSpecF1
import Derived.Test.YtkdkeacfifjjoabGreatDoorSpecM1
namespace Go.Proofs.YtkdkeacfifjjoabGreatDoor
open Go.ChangeShapes Go.WideShapes Go.ChangeAt Go.RowKit
set_option linter.unusedVariables false

set_option linter.unusedSimpArgs false
/-- A told matrix, its letters open. -/
theorem gave12_at (o : Option F4) : ∃ r1 r2 r3 r4 r5 r6 r7 r8 r9 r10 r11 r12 : Int, ∃ k : Bool, (k = true → o = some ((r1, r2, r3), (r4, r5, r6), (r7, r8, r9), (r10, r11, r12))) ∧ (k = false → o = none) ∧ ∀ P f ar w, Calls P f ar w (Gave12 o w) → Calls P f ar w fun e w' => e = .returned (.tuple #[.agg #[.int .i64 r1, .int .i64 r2, .int .i64 r3, .int .i64 r4, .int .i64 r5, .int .i64 r6, .int .i64 r7, .int .i64 r8, .int .i64 r9, .int .i64 r10, .int .i64 r11, .int .i64 r12], .bool k]) ∧ Below w.heap.size w w' := by
  cases o with
  | none => exact ⟨0, 0, 0, 0, 0, 0, 0, 0, 0, 0, 0, 0, false, (fun h => by cases h), (fun _ => rfl), fun P f ar w c => c.mono fun e w' h => ⟨h.2.1 rfl, h.2.2⟩⟩
  | some v =>
    obtain ⟨⟨u1, u2, u3⟩, ⟨u4, u5, u6⟩, ⟨u7, u8, u9⟩, u10, u11, u12⟩ := v
    exact ⟨u1, u2, u3, u4, u5, u6, u7, u8, u9, u10, u11, u12, true, (fun _ => rfl), (fun h => by cases h), fun P f ar w c => c.mono fun e w' h => ⟨h.1 _ _ _ _ _ _ _ _ _ _ _ _ rfl, h.2.2⟩⟩
end Go.Proofs.YtkdkeacfifjjoabGreatDoor
