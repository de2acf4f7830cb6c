/-
  Contracts of fractions at told results.
-/
import Derived.Test.YtbihlkienhbapabDoorImplRest
namespace Go.Proofs.YtbihlkienhbapabDoor
open Go.ChangeShapes Go.WideShapes Go.ChangeAt Go.RowKit
set_option linter.unusedVariables false

theorem gave_some {o : Option (Int × Int × Int)} {p q r : Int} (h : o = some (p, q, r)) {P : Program} {f : FuncId} {ar : Array Value} {w : World} (c : Calls P f ar w (Gave o w)) :
    Calls P f ar w fun e w' => e = .returned (.tuple #[.agg #[.int .i64 p, .int .i64 q, .int .i64 r], .bool true]) ∧ Below w.heap.size w w' := by subst h; exact c
theorem gave_none {o : Option (Int × Int × Int)} (h : o = none) {P : Program} {f : FuncId} {ar : Array Value} {w : World} (c : Calls P f ar w (Gave o w)) :
    Calls P f ar w fun e w' => e = .returned (.tuple #[.agg #[.int .i64 0, .int .i64 0, .int .i64 0], .bool false]) ∧ Below w.heap.size w w' := by subst h; exact c
theorem gave_any {o : Option (Int × Int × Int)} {p q r : Int} {k : Bool} (hp : partsR o = (p, q, r)) (hk : okR o = k) {P : Program} {f : FuncId} {ar : Array Value} {w : World} (c : Calls P f ar w (Gave o w)) :
    Calls P f ar w fun e w' => e = .returned (.tuple #[.agg #[.int .i64 p, .int .i64 q, .int .i64 r], .bool k]) ∧ Below w.heap.size w w' := by
  unfold Gave at c
  rw [resV_eq, hp, hk] at c
  exact c
theorem parts_i64 {o : Option (Int × Int × Int)} (h : ∀ p q r, o = some (p, q, r) → okF p q r = true) {p q r : Int} (hp : partsR o = (p, q, r)) : i64B p ∧ i64B q ∧ i64B r := by
  cases o with
  | none =>
    simp only [partsR, Option.getD_none, Prod.mk.injEq] at hp
    obtain ⟨rfl, rfl, rfl⟩ := hp
    unfold i64B; omega
  | some v =>
    obtain ⟨a, b, c⟩ := v
    simp only [partsR, Option.getD_some, Prod.mk.injEq] at hp
    obtain ⟨rfl, rfl, rfl⟩ := hp
    exact okF_i64 (h _ _ _ rfl)
end Go.Proofs.YtbihlkienhbapabDoor
