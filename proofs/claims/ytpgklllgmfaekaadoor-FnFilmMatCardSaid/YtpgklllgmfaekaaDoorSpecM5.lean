/-
  The model: directions, rotators, phases.
-/
import Derived.Test.YtpgklllgmfaekaaDoorSpecM1
import Derived.Test.YtpgklllgmfaekaaDoorBMath
import Derived.Deep.RegionHeld3
namespace Go.Proofs.YtpgklllgmfaekaaDoor
open Go.ChangeShapes Go.WideShapes Go.ChangeAt Go.RowKit
set_option linter.unusedVariables false

theorem in_at {a b : Bool} (h : a = b) {P : Program} {f : FuncId} {ar : Array Value} {w : World} (c : Calls P f ar w fun e w' => e = .returned (.bool a) ∧ w = w') :
    Calls P f ar w fun e w' => e = .returned (.bool b) ∧ w = w' := by subst h; exact c
theorem ddir_bd {p q : Int} (h : dirB p q = true) : inB p (-100) 100 = true ∧ inB q (-100) 100 = true ∧ ¬ (p = 0 ∧ q = 0) := by
  unfold dirB at h
  simp only [Bool.and_eq_true, Bool.not_eq_true', Bool.and_eq_false_iff, beq_eq_false_iff_ne] at h
  exact ⟨h.1.1, h.1.2, fun k => by rcases h.2 with h | h; exact h k.1; exact h k.2⟩
theorem dsq_bd {a : Int} (h1 : -100 ≤ a) (h2 : a ≤ 100) : 0 ≤ a * a ∧ a * a ≤ 10000 := by
  have := mul_bd (a := a) (b := a) (m := 100) (n := 100) (by omega) (by omega) (by omega) (by omega)
  exact ⟨isq_nonneg a, by omega⟩
theorem dtwo_bd {p q : Int} (hp : -100 ≤ p ∧ p ≤ 100) (hq : -100 ≤ q ∧ q ≤ 100) : -20000 ≤ 2 * p * q ∧ 2 * p * q ≤ 20000 := by
  have := mul_bd (a := p) (b := q) (m := 100) (n := 100) (by omega) (by omega) (by omega) (by omega)
  have e : 2 * p * q = 2 * (p * q) := by rw [Int.mul_assoc]
  omega
set_option maxHeartbeats 4000000 in
theorem specPhase_0 (w : World) : Calls Tryd.prog 13 #[.int .i64 0] w fun e w' => e = .returned (.agg #[.int .i64 1, .int .i64 0, .int .i64 1]) ∧ Below w.heap.size w w' := by
  go_enter Tryd.func13, Tryd.ntmps13
  go_wp2_with fail
  refine bodyPost_ret (v := .agg #[.int .i64 1, .int .i64 0, .int .i64 1]) (by simp [results, Tryd.results13, go_sem, *]) rfl ⟨rfl, ?_⟩
  show Acc w _
  (repeat' (first | (with_reducible first | assumption | exact Acc.refl _ | refine Acc.drew ?_ | refine Acc.drewN ?_ _ | refine Acc.alloc ?_ _ | refine Acc.setCell ?_ ?_ _) | (refine leB ?_; omega)))
set_option maxHeartbeats 4000000 in
theorem specPhase_1 (w : World) : Calls Tryd.prog 13 #[.int .i64 1] w fun e w' => e = .returned (.agg #[.int .i64 0, .int .i64 1, .int .i64 1]) ∧ Below w.heap.size w w' := by
  go_enter Tryd.func13, Tryd.ntmps13
  go_wp2_with fail
  refine bodyPost_ret (v := .agg #[.int .i64 0, .int .i64 1, .int .i64 1]) (by simp [results, Tryd.results13, go_sem, *]) rfl ⟨rfl, ?_⟩
  show Acc w _
  (repeat' (first | (with_reducible first | assumption | exact Acc.refl _ | refine Acc.drew ?_ | refine Acc.drewN ?_ _ | refine Acc.alloc ?_ _ | refine Acc.setCell ?_ ?_ _) | (refine leB ?_; omega)))
set_option maxHeartbeats 4000000 in
theorem specPhase_2 (w : World) : Calls Tryd.prog 13 #[.int .i64 2] w fun e w' => e = .returned (.agg #[.int .i64 (-1), .int .i64 0, .int .i64 1]) ∧ Below w.heap.size w w' := by
  go_enter Tryd.func13, Tryd.ntmps13
  go_wp2_with fail
  refine bodyPost_ret (v := .agg #[.int .i64 (-1), .int .i64 0, .int .i64 1]) (by simp [results, Tryd.results13, go_sem, *]) rfl ⟨rfl, ?_⟩
  show Acc w _
  (repeat' (first | (with_reducible first | assumption | exact Acc.refl _ | refine Acc.drew ?_ | refine Acc.drewN ?_ _ | refine Acc.alloc ?_ _ | refine Acc.setCell ?_ ?_ _) | (refine leB ?_; omega)))
set_option maxHeartbeats 4000000 in
theorem specPhase_3 (w : World) : Calls Tryd.prog 13 #[.int .i64 3] w fun e w' => e = .returned (.agg #[.int .i64 0, .int .i64 (-1), .int .i64 1]) ∧ Below w.heap.size w w' := by
  go_enter Tryd.func13, Tryd.ntmps13
  go_wp2_with fail
  refine bodyPost_ret (v := .agg #[.int .i64 0, .int .i64 (-1), .int .i64 1]) (by simp [results, Tryd.results13, go_sem, *]) rfl ⟨rfl, ?_⟩
  show Acc w _
  (repeat' (first | (with_reducible first | assumption | exact Acc.refl _ | refine Acc.drew ?_ | refine Acc.drewN ?_ _ | refine Acc.alloc ?_ _ | refine Acc.setCell ?_ ?_ _) | (refine leB ?_; omega)))
theorem specPhase_any (k p1 p2 p3 : Int) (hk : inB k 0 3 = true) (hp : phaT k = (p1, p2, p3)) (w : World) : Calls Tryd.prog 13 #[.int .i64 k] w fun e w' => e = .returned (.agg #[.int .i64 p1, .int .i64 p2, .int .i64 p3]) ∧ Below w.heap.size w w' := by
  rcases pha_in hk with rfl | rfl | rfl | rfl
  · obtain ⟨rfl, rfl, rfl⟩ : 1 = p1 ∧ 0 = p2 ∧ 1 = p3 := by simpa [phaT] using hp
    exact specPhase_0 w
  · obtain ⟨rfl, rfl, rfl⟩ : 0 = p1 ∧ 1 = p2 ∧ 1 = p3 := by simpa [phaT] using hp
    exact specPhase_1 w
  · obtain ⟨rfl, rfl, rfl⟩ : -1 = p1 ∧ 0 = p2 ∧ 1 = p3 := by simpa [phaT] using hp
    exact specPhase_2 w
  · obtain ⟨rfl, rfl, rfl⟩ : 0 = p1 ∧ -1 = p2 ∧ 1 = p3 := by simpa [phaT] using hp
    exact specPhase_3 w
end Go.Proofs.YtpgklllgmfaekaaDoor
