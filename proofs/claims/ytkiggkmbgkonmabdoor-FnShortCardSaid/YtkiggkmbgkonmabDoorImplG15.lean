/-
  The program: sections of the same plate.
-/
import Derived.Test.YtkiggkmbgkonmabDoorImplG3
namespace Go.Proofs.YtkiggkmbgkonmabDoor
open Go.ChangeShapes Go.WideShapes Go.ChangeAt Go.RowKit
set_option linter.unusedVariables false

set_option linter.unusedSimpArgs false
set_option maxHeartbeats 8000000 in
theorem hasPlate_any (n1 n2 n3 t m1 m2 m3 u : Int) (b : Bool) (hb : decide ((m1, m2, m3) = (n1, n2, n3)) = b) (w : World) : Calls Tryd.prog 65 #[.agg #[.int .i64 n1, .int .i64 n2, .int .i64 n3, .int .i64 t], .agg #[.int .i64 m1, .int .i64 m2, .int .i64 m3, .int .i64 u]] w fun e w' => e = .returned (.bool b) ∧ Below w.heap.size w w' := by
  subst hb
  by_cases h0 : n1 = m1
  · skip
    by_cases h1 : n2 = m2
    · skip
      by_cases h2 : n3 = m3
      · skip
        subst h0 h1 h2
        have E : decide ((n1, n2, n3) = (n1, n2, n3)) = true := decide_eq_true rfl
        rw [E]
        clear E
        go_enter Tryd.func65, Tryd.ntmps65
        go_wp2_with fail
        go_ret
        refine ⟨rfl, ?_⟩
        show Acc w _
        (repeat' (first | (with_reducible first | assumption | exact Acc.refl _ | refine Acc.drew ?_ | refine Acc.drewN ?_ _ | refine Acc.alloc ?_ _ | refine Acc.setCell ?_ ?_ _) | (refine leB ?_; omega)))
      · skip
        have hb2 : (n3 == m3) = false := by simp [h2]
        have E : decide ((m1, m2, m3) = (n1, n2, n3)) = false := decide_eq_false (fun e => h2 (by simp only [Prod.mk.injEq] at e; omega))
        rw [E]
        clear E
        subst h0
        subst h1
        go_enter Tryd.func65, Tryd.ntmps65
        go_wp2_with fail
        go_ret
        refine ⟨rfl, ?_⟩
        show Acc w _
        (repeat' (first | (with_reducible first | assumption | exact Acc.refl _ | refine Acc.drew ?_ | refine Acc.drewN ?_ _ | refine Acc.alloc ?_ _ | refine Acc.setCell ?_ ?_ _) | (refine leB ?_; omega)))
    · skip
      have hb1 : (n2 == m2) = false := by simp [h1]
      have E : decide ((m1, m2, m3) = (n1, n2, n3)) = false := decide_eq_false (fun e => h1 (by simp only [Prod.mk.injEq] at e; omega))
      rw [E]
      clear E
      subst h0
      go_enter Tryd.func65, Tryd.ntmps65
      go_wp2_with fail
      go_ret
      refine ⟨rfl, ?_⟩
      show Acc w _
      (repeat' (first | (with_reducible first | assumption | exact Acc.refl _ | refine Acc.drew ?_ | refine Acc.drewN ?_ _ | refine Acc.alloc ?_ _ | refine Acc.setCell ?_ ?_ _) | (refine leB ?_; omega)))
  · skip
    have hb0 : (n1 == m1) = false := by simp [h0]
    have E : decide ((m1, m2, m3) = (n1, n2, n3)) = false := decide_eq_false (fun e => h0 (by simp only [Prod.mk.injEq] at e; omega))
    rw [E]
    clear E
    go_enter Tryd.func65, Tryd.ntmps65
    go_wp2_with fail
    go_ret
    refine ⟨rfl, ?_⟩
    show Acc w _
    (repeat' (first | (with_reducible first | assumption | exact Acc.refl _ | refine Acc.drew ?_ | refine Acc.drewN ?_ _ | refine Acc.alloc ?_ _ | refine Acc.setCell ?_ ?_ _) | (refine leB ?_; omega)))
end Go.Proofs.YtkiggkmbgkonmabDoor
