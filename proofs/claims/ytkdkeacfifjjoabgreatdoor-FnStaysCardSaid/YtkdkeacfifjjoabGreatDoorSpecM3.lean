/-
  The model: matrices: diagonals, dark, lossless.
-/
import Derived.Test.YtkdkeacfifjjoabGreatDoorSpecM1
import Derived.Test.YtkdkeacfifjjoabGreatDoorBLet
import Derived.Deep.RegionHeld3
import Derived.Deep.QuietTactic
import Derived.BigQuiet
namespace Go.Proofs.YtkdkeacfifjjoabGreatDoor
open Go.ChangeShapes Go.WideShapes Go.ChangeAt Go.RowKit
set_option linter.unusedVariables false

set_option maxHeartbeats 8000000 in
theorem specOne_any (a1 a2 a3 b1 b2 b3 : Int) (w : World) :
    Calls Tryz.prog 28 #[.agg #[.int .i64 a1, .int .i64 a2, .int .i64 a3], .agg #[.int .i64 b1, .int .i64 b2, .int .i64 b3]] w fun e w' => e = .returned (.agg #[.int .i64 a1, .int .i64 a2, .int .i64 a3, .int .i64 0, .int .i64 0, .int .i64 1, .int .i64 0, .int .i64 0, .int .i64 1, .int .i64 b1, .int .i64 b2, .int .i64 b3]) ∧ Below w.heap.size w w' := by
  go_enter Tryz.func28, Tryz.ntmps28
  go_wp2_with fail
  refine bodyPost_ret (v := .agg #[.int .i64 a1, .int .i64 a2, .int .i64 a3, .int .i64 0, .int .i64 0, .int .i64 1, .int .i64 0, .int .i64 0, .int .i64 1, .int .i64 b1, .int .i64 b2, .int .i64 b3]) (by simp [results, Tryz.results28, go_sem, *]) rfl ⟨rfl, ?_⟩
  show Acc w _
  (repeat' (first | (with_reducible first | assumption | exact Acc.refl _ | refine Acc.drew ?_ | refine Acc.drewN ?_ _ | refine Acc.alloc ?_ _ | refine Acc.setCell ?_ ?_ _) | (refine leB ?_; omega)))
/-- A told matrix, its letters open. -/
theorem gaveM_open (o : Option F4) : ∃ a b c d : F3, ∃ k : Bool, (k = true → o = some (a, b, c, d)) ∧ (k = false → o = none) ∧ ∀ P f ar w, Calls P f ar w (Gave12 o w) → Calls P f ar w fun e w' => e = .returned (.tuple #[.agg #[.int .i64 a.1, .int .i64 a.2.1, .int .i64 a.2.2, .int .i64 b.1, .int .i64 b.2.1, .int .i64 b.2.2, .int .i64 c.1, .int .i64 c.2.1, .int .i64 c.2.2, .int .i64 d.1, .int .i64 d.2.1, .int .i64 d.2.2], .bool k]) ∧ Below w.heap.size w w' := by
  cases o with
  | none => exact ⟨(0, 0, 0), (0, 0, 0), (0, 0, 0), (0, 0, 0), false, (fun h => by cases h), fun _ => rfl, fun P f ar w c => c.mono fun e w' h => ⟨h.2.1 rfl, h.2.2⟩⟩
  | some v =>
    obtain ⟨a, b, c, d⟩ := v
    exact ⟨a, b, c, d, true, fun _ => rfl, (fun h => by cases h), fun P f ar w k => k.mono fun e w' h => ⟨h.1 _ _ _ _ _ _ _ _ _ _ _ _ rfl, h.2.2⟩⟩
end Go.Proofs.YtkdkeacfifjjoabGreatDoor
