/-
  The model: the single number of a fraction.
-/
import Derived.Test.YtbihlkienhbapabDoorSpecWide
import Derived.Test.YtbihlkienhbapabDoorConvRun
namespace Go.Proofs.YtbihlkienhbapabDoor
open Go.ChangeShapes Go.WideShapes Go.ChangeAt Go.RowKit
set_option linter.unusedVariables false

/-- A part of a fraction as a single float. -/
def singleOf (n d : Int) : Nat := (floatToFloatBits .f64 (fop .quo (floatOfInt .f64 n) (floatOfInt .f64 d)) .f32).getD 0
theorem single_told {n d : Int} (hn : -2000000000 ≤ n ∧ n ≤ 2000000000) (hd : 1 ≤ d ∧ d ≤ 2000000000) {p : Nat} (hp : Same p (fop .quo (floatOfInt .f64 n) (floatOfInt .f64 d))) : floatToFloatBits .f64 p .f32 = some (singleOf n d) := by
  obtain ⟨P, hP, s, m, q, e, hb⟩ := quo_small (n := n) (d := d) (by omega) (by omega)
  obtain ⟨r, hr⟩ := narrow_small e hb
  have e1 : fop .quo (floatOfInt .f64 n) (floatOfInt .f64 d) = P := by unfold fop; rw [hP]; rfl
  have e2 : p = P := by
    rw [e1] at hp
    rcases hp with h | ⟨_, h⟩
    · exact h
    · rw [fbits_not_nan hP] at h; cases h
  unfold singleOf
  rw [e1, e2, hr]; rfl

def Singled (x y z : Int) (w : World) (e : Ending) (w' : World) : Prop :=
  (okF x y z = true → e = .returned (.tuple #[.complex .f32 (singleOf x z) (singleOf y z), .bool true])) ∧
  (okF x y z = false → e = .returned (.tuple #[.complex .f32 0 0, .bool false])) ∧ Below w.heap.size w w'

end Go.Proofs.YtbihlkienhbapabDoor
