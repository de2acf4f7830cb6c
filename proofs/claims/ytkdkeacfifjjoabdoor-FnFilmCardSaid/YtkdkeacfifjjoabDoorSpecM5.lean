/-
  The model: directions, rotators, phases.
-/
import Derived.Test.YtkdkeacfifjjoabDoorSpecM1
import Derived.Test.YtkdkeacfifjjoabDoorBMath
import Derived.Deep.RegionHeld3
namespace Go.Proofs.YtkdkeacfifjjoabDoor
open Go.ChangeShapes Go.WideShapes Go.ChangeAt Go.RowKit
set_option linter.unusedVariables false

theorem in_at {a b : Bool} (h : a = b) {P : Program} {f : FuncId} {ar : Array Value} {w : World} (c : Calls P f ar w fun e w' => e = .returned (.bool a) ∧ w = w') :
    Calls P f ar w fun e w' => e = .returned (.bool b) ∧ w = w' := by subst h; exact c
theorem ddir_bd {p q : Int} (h : dirB p q = true) : inB p (-100) 100 = true ∧ inB q (-100) 100 = true ∧ ¬ (p = 0 ∧ q = 0) := by
  unfold dirB at h
  simp only [Bool.and_eq_true, Bool.not_eq_true', Bool.and_eq_false_iff, beq_eq_false_iff_ne] at h
  exact ⟨h.1.1, h.1.2, fun k => by rcases h.2 with h | h; exact h k.1; exact h k.2⟩
theorem dsq_bd {a : Int} (h1 : -100 ≤ a) (h2 : a ≤ 100) : 0 ≤ a * a ∧ a * a ≤ 10000 := by
  have := mul_bd (a := a) (b := a) (m := 100) (n := 100) (by omega) (by omega) (by omega) (by omega)
  exact ⟨isq_nonneg a, by omega⟩
theorem dtwo_bd {p q : Int} (hp : -100 ≤ p ∧ p ≤ 100) (hq : -100 ≤ q ∧ q ≤ 100) : -20000 ≤ 2 * p * q ∧ 2 * p * q ≤ 20000 := by
  have := mul_bd (a := p) (b := q) (m := 100) (n := 100) (by omega) (by omega) (by omega) (by omega)
  have e : 2 * p * q = 2 * (p * q) := by rw [Int.mul_assoc]
  omega
end Go.Proofs.YtkdkeacfifjjoabDoor
