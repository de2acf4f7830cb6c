/-
  The model: FibreBack.
-/
import Derived.Test.YtkdkeacfifjjoabGreatDoorSpecG1
import Derived.Test.YtkdkeacfifjjoabGreatDoorWr
import Derived.Test.YtkdkeacfifjjoabGreatDoorBLawS
import Derived.Test.YtkdkeacfifjjoabGreatDoorBFib
import Derived.Laws.AppendOwn
namespace Go.Proofs.YtkdkeacfifjjoabGreatDoor
open Go.ChangeShapes Go.WideShapes Go.ChangeAt Go.RowKit
set_option linter.unusedVariables false

set_option linter.unusedSimpArgs false
theorem own_rowN {w : World} {B sz n g : Nat} {e : TypeId} {v : Value} {xs : List Value} (h : w.ownsRow B e sz v n xs) (hg : v.ownBlock = some g) : B ≤ g := by
  rcases h.2 with ⟨rfl, _⟩ | ⟨g', cap, cur, rfl, hB, _⟩
  · cases hg
  · simp only [Value.ownBlock, Option.some.injEq] at hg
    omega
end Go.Proofs.YtkdkeacfifjjoabGreatDoor
