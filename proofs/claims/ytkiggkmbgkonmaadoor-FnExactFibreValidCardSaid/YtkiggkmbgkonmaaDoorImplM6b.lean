/-
  The program's elements: rotators, powers of i.
-/
import Derived.Test.YtkiggkmbgkonmaaDoorImplM1
import Derived.Test.YtkiggkmbgkonmaaDoorBMath
import Derived.Deep.RegionHeld3
import Derived.Deep.RegionWith
import Derived.Deep.QuietTactic
import Derived.BigQuiet
namespace Go.Proofs.YtkiggkmbgkonmaaDoor
open Go.ChangeShapes Go.WideShapes Go.ChangeAt Go.RowKit
set_option linter.unusedVariables false

set_option maxHeartbeats 4000000 in
theorem powerOfI_0 (w : World) : Calls Tryd.prog 28 #[.int .i64 0] w (Erred (some (1, 0, 1)) w) := by
  go_enter Tryd.func28, Tryd.ntmps28
  go_wp2_with fail
  refine bodyPost_ret (v := .tuple #[.agg #[.int .i64 1, .int .i64 0, .int .i64 1], .nilIface]) (by simp [results, Tryd.results28, go_sem, *]) rfl ⟨fun _ _ _ h => (by cases h; rfl), fun h => (by cases h), ?_⟩
  show Acc w _
  (repeat' (first | (with_reducible first | assumption | exact Acc.refl _ | refine Acc.drew ?_ | refine Acc.drewN ?_ _ | refine Acc.alloc ?_ _ | refine Acc.setCell ?_ ?_ _) | (refine leB ?_; omega)))
set_option maxHeartbeats 4000000 in
theorem powerOfI_1 (w : World) : Calls Tryd.prog 28 #[.int .i64 1] w (Erred (some (0, 1, 1)) w) := by
  go_enter Tryd.func28, Tryd.ntmps28
  go_wp2_with fail
  refine bodyPost_ret (v := .tuple #[.agg #[.int .i64 0, .int .i64 1, .int .i64 1], .nilIface]) (by simp [results, Tryd.results28, go_sem, *]) rfl ⟨fun _ _ _ h => (by cases h; rfl), fun h => (by cases h), ?_⟩
  show Acc w _
  (repeat' (first | (with_reducible first | assumption | exact Acc.refl _ | refine Acc.drew ?_ | refine Acc.drewN ?_ _ | refine Acc.alloc ?_ _ | refine Acc.setCell ?_ ?_ _) | (refine leB ?_; omega)))
set_option maxHeartbeats 4000000 in
theorem powerOfI_2 (w : World) : Calls Tryd.prog 28 #[.int .i64 2] w (Erred (some ((-1), 0, 1)) w) := by
  go_enter Tryd.func28, Tryd.ntmps28
  go_wp2_with fail
  refine bodyPost_ret (v := .tuple #[.agg #[.int .i64 (-1), .int .i64 0, .int .i64 1], .nilIface]) (by simp [results, Tryd.results28, go_sem, *]) rfl ⟨fun _ _ _ h => (by cases h; rfl), fun h => (by cases h), ?_⟩
  show Acc w _
  (repeat' (first | (with_reducible first | assumption | exact Acc.refl _ | refine Acc.drew ?_ | refine Acc.drewN ?_ _ | refine Acc.alloc ?_ _ | refine Acc.setCell ?_ ?_ _) | (refine leB ?_; omega)))
set_option maxHeartbeats 4000000 in
theorem powerOfI_3 (w : World) : Calls Tryd.prog 28 #[.int .i64 3] w (Erred (some (0, (-1), 1)) w) := by
  go_enter Tryd.func28, Tryd.ntmps28
  go_wp2_with fail
  refine bodyPost_ret (v := .tuple #[.agg #[.int .i64 0, .int .i64 (-1), .int .i64 1], .nilIface]) (by simp [results, Tryd.results28, go_sem, *]) rfl ⟨fun _ _ _ h => (by cases h; rfl), fun h => (by cases h), ?_⟩
  show Acc w _
  (repeat' (first | (with_reducible first | assumption | exact Acc.refl _ | refine Acc.drew ?_ | refine Acc.drewN ?_ _ | refine Acc.alloc ?_ _ | refine Acc.setCell ?_ ?_ _) | (refine leB ?_; omega)))
set_option maxHeartbeats 4000000 in
theorem powerOfI_no (k : Int) (hk : inB k 0 3 = false) (w : World) : Calls Tryd.prog 28 #[.int .i64 k] w (Erred none w) := by
  have hk' : k < 0 ∨ 4 ≤ k := by
    unfold inB at hk
    simp only [decide_eq_false_iff_not] at hk
    omega
  clear hk
  rcases hk' with hk | hk
  · skip
    go_enter Tryd.func28, Tryd.ntmps28
    go_wp2_with fail
    refine bodyPost_ret (by conv => lhs; simp [results, Tryd.results28, go_sem, *]) rfl ⟨fun _ _ _ h => (by cases h), fun _ => ⟨_, rfl⟩, ?_⟩
    show Acc w _
    (repeat' (first | (with_reducible first | assumption | exact Acc.refl _ | refine Acc.drew ?_ | refine Acc.drewN ?_ _ | refine Acc.alloc ?_ _ | refine Acc.setCell ?_ ?_ _) | (refine leB ?_; omega)))
  · skip
    go_enter Tryd.func28, Tryd.ntmps28
    go_wp2_with fail
    refine bodyPost_ret (by conv => lhs; simp [results, Tryd.results28, go_sem, *]) rfl ⟨fun _ _ _ h => (by cases h), fun _ => ⟨_, rfl⟩, ?_⟩
    show Acc w _
    (repeat' (first | (with_reducible first | assumption | exact Acc.refl _ | refine Acc.drew ?_ | refine Acc.drewN ?_ _ | refine Acc.alloc ?_ _ | refine Acc.setCell ?_ ?_ _) | (refine leB ?_; omega)))
theorem powerOfI_any (k f1 f2 f3 : Int) (hf : phaT k = (f1, f2, f3)) (w : World) : Calls Tryd.prog 28 #[.int .i64 k] w (Erred (if inB k 0 3 = true then some (f1, f2, f3) else none) w) := by
  cases hk : inB k 0 3 with
  | false => exact powerOfI_no k hk w
  | true =>
    rw [if_pos rfl]
    rcases pha_in hk with rfl | rfl | rfl | rfl
    · obtain ⟨rfl, rfl, rfl⟩ : 1 = f1 ∧ 0 = f2 ∧ 1 = f3 := by simpa [phaT] using hf
      exact powerOfI_0 w
    · obtain ⟨rfl, rfl, rfl⟩ : 0 = f1 ∧ 1 = f2 ∧ 1 = f3 := by simpa [phaT] using hf
      exact powerOfI_1 w
    · obtain ⟨rfl, rfl, rfl⟩ : -1 = f1 ∧ 0 = f2 ∧ 1 = f3 := by simpa [phaT] using hf
      exact powerOfI_2 w
    · obtain ⟨rfl, rfl, rfl⟩ : 0 = f1 ∧ -1 = f2 ∧ 1 = f3 := by simpa [phaT] using hf
      exact powerOfI_3 w
end Go.Proofs.YtkiggkmbgkonmaaDoor
