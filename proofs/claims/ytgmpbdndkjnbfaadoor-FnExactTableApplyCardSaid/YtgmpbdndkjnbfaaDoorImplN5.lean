/-
  The program's four numbers: light and pure light.
-/
import Derived.Test.YtgmpbdndkjnbfaaDoorImplN4
namespace Go.Proofs.YtgmpbdndkjnbfaaDoor
open Go.ChangeShapes Go.WideShapes Go.ChangeAt Go.RowKit
set_option linter.unusedVariables false

theorem squares_valid {a1 a2 a3 b1 b2 b3 c1 c2 c3 d1 d2 d3 : Int} {o : (Int × Int × Int)} (h : squaresF a1 a2 a3 b1 b2 b3 c1 c2 c3 d1 d2 d3 = some o) : sValid a1 a2 a3 b1 b2 b3 c1 c2 c3 d1 d2 d3 = true := by
  unfold squaresF at h
  split at h
  · assumption
  · cases h
theorem squares_okF {a1 a2 a3 b1 b2 b3 c1 c2 c3 d1 d2 d3 p q r : Int} (h : squaresF a1 a2 a3 b1 b2 b3 c1 c2 c3 d1 d2 d3 = some (p, q, r)) : okF p q r = true := by
  unfold squaresF at h
  split at h
  · generalize sumO (sumO (some (0, 0, 1)) (timesF b1 b2 b3 b1 b2 b3)) (timesF c1 c2 c3 c1 c2 c3) = x at h
    generalize timesF d1 d2 d3 d1 d2 d3 = y at h
    cases x with
    | none => cases h
    | some u =>
      cases y with
      | none => cases h
      | some v => exact (sum_some h).2.2.1
  · cases h
/-- What the program says of light. -/
def ErredLight (o : Option Int) (b : Bool) (w : World) (e : Ending) (w' : World) : Prop :=
  (∀ n, o = some n → e = .returned (.tuple #[.bool (decide (0 ≤ n) && b), .nilIface])) ∧ (o = none → ∃ k s, e = .returned (.tuple #[.bool k, .iface 113 (.agg #[.string s])])) ∧ Below w.heap.size w w'
theorem sign_ge (n : Int) : decide (0 ≤ signI n) = decide (0 ≤ n) := by
  unfold signI
  split
  · simp; omega
  · split <;> simp <;> omega
/-- What the program says of light. -/
def ErredPure (o : Option Int) (b : Bool) (w : World) (e : Ending) (w' : World) : Prop :=
  (∀ n, o = some n → e = .returned (.tuple #[.bool (decide (n = 0) && b), .nilIface])) ∧ (o = none → ∃ k s, e = .returned (.tuple #[.bool k, .iface 113 (.agg #[.string s])])) ∧ Below w.heap.size w w'
theorem sign_ge2 (n : Int) : decide (0 ≤ signI n) = decide (0 ≤ n) := by
  unfold signI
  split
  · simp; omega
  · split <;> simp <;> omega
end Go.Proofs.YtgmpbdndkjnbfaaDoor
