/-
  The model: four numbers that a table makes.
-/
import Derived.Test.YtgmpbdndkjnbfaaDoorSpecT1
import Derived.Test.YtgmpbdndkjnbfaaDoorRow
import Derived.Test.YtgmpbdndkjnbfaaDoorSpecT2
import Derived.Deep.RegionHeld3
namespace Go.Proofs.YtgmpbdndkjnbfaaDoor
open Go.ChangeShapes Go.WideShapes Go.ChangeAt Go.RowKit
set_option linter.unusedVariables false

set_option linter.unusedSimpArgs false
set_option maxRecDepth 100000 in
set_option maxHeartbeats 8000000 in
theorem specTOf_0 (m0a m0b m0c m1a m1b m1c m2a m2b m2c m3a m3b m3c m4a m4b m4c m5a m5b m5c m6a m6b m6c m7a m7b m7c m8a m8b m8c m9a m9b m9c m10a m10b m10c m11a m11b m11c m12a m12b m12c m13a m13b m13c m14a m14b m14c m15a m15b m15c : Int) (w : World) :
    Calls Tryd.prog 19 #[.agg #[.int .i64 m0a, .int .i64 m0b, .int .i64 m0c, .int .i64 m1a, .int .i64 m1b, .int .i64 m1c, .int .i64 m2a, .int .i64 m2b, .int .i64 m2c, .int .i64 m3a, .int .i64 m3b, .int .i64 m3c, .int .i64 m4a, .int .i64 m4b, .int .i64 m4c, .int .i64 m5a, .int .i64 m5b, .int .i64 m5c, .int .i64 m6a, .int .i64 m6b, .int .i64 m6c, .int .i64 m7a, .int .i64 m7b, .int .i64 m7c, .int .i64 m8a, .int .i64 m8b, .int .i64 m8c, .int .i64 m9a, .int .i64 m9b, .int .i64 m9c, .int .i64 m10a, .int .i64 m10b, .int .i64 m10c, .int .i64 m11a, .int .i64 m11b, .int .i64 m11c, .int .i64 m12a, .int .i64 m12b, .int .i64 m12c, .int .i64 m13a, .int .i64 m13b, .int .i64 m13c, .int .i64 m14a, .int .i64 m14b, .int .i64 m14c, .int .i64 m15a, .int .i64 m15b, .int .i64 m15c], .int .i64 0] w fun e w' => e = .returned (.agg #[.int .i64 m0a, .int .i64 m0b, .int .i64 m0c, .int .i64 m1a, .int .i64 m1b, .int .i64 m1c, .int .i64 m2a, .int .i64 m2b, .int .i64 m2c, .int .i64 m3a, .int .i64 m3b, .int .i64 m3c]) ∧ Below w.heap.size w w' := by
  have ew0 : IntKind.i64.wrap (4 * 0) = 0 := by decide
  have ew1 : IntKind.i64.wrap 0 = 0 := by decide
  have ew2 : IntKind.i64.wrap 1 = 1 := by decide
  have ew3 : IntKind.i64.wrap 2 = 2 := by decide
  have ew4 : IntKind.i64.wrap 3 = 3 := by decide
  have ew6 : IntKind.i64.wrap (0 + 1) = 1 := by decide
  have ew7 : IntKind.i64.wrap (0 + 2) = 2 := by decide
  have ew8 : IntKind.i64.wrap (0 + 3) = 3 := by decide
  go_enter Tryd.func19, Tryd.ntmps19
  go_upto_region 1 with fail
  go_region_held3 (fun w' => (∀ k, w'.cell? ⟨w.heap.size, k, none⟩ = [.int .i64 m0a, .int .i64 m0b, .int .i64 m0c, .int .i64 m1a, .int .i64 m1b, .int .i64 m1c, .int .i64 m2a, .int .i64 m2b, .int .i64 m2c, .int .i64 m3a, .int .i64 m3b, .int .i64 m3c, .int .i64 m4a, .int .i64 m4b, .int .i64 m4c, .int .i64 m5a, .int .i64 m5b, .int .i64 m5c, .int .i64 m6a, .int .i64 m6b, .int .i64 m6c, .int .i64 m7a, .int .i64 m7b, .int .i64 m7c, .int .i64 m8a, .int .i64 m8b, .int .i64 m8c, .int .i64 m9a, .int .i64 m9b, .int .i64 m9c, .int .i64 m10a, .int .i64 m10b, .int .i64 m10c, .int .i64 m11a, .int .i64 m11b, .int .i64 m11c, .int .i64 m12a, .int .i64 m12b, .int .i64 m12c, .int .i64 m13a, .int .i64 m13b, .int .i64 m13c, .int .i64 m14a, .int .i64 m14b, .int .i64 m14c, .int .i64 m15a, .int .i64 m15b, .int .i64 m15c][k]?))
    (((try dsimp only); (refine Blk.cell ?_ <;> (repeat' (first | (with_reducible first | assumption | refine Blk.drew ?_ | refine Blk.drewN ?_ _ | apply Blk.set | (refine Blk.new ?_; focus (first | rfl | (simp; done))) | refine Blk.alloc ?_ _ | refine Blk.other ?_ ?_ _) | exact eqL rfl | (refine neB ?_; omega))))))
    (first
      | fail)
  all_goals
    go_wp2_with fail
    refine bodyPost_ret (v := .agg #[.int .i64 m0a, .int .i64 m0b, .int .i64 m0c, .int .i64 m1a, .int .i64 m1b, .int .i64 m1c, .int .i64 m2a, .int .i64 m2b, .int .i64 m2c, .int .i64 m3a, .int .i64 m3b, .int .i64 m3c]) (by simp [results, Tryd.results19, go_sem, *]) rfl ⟨rfl, ?_⟩
    show Acc w _
    (repeat' (first | (with_reducible first | assumption | exact Acc.refl _ | refine Acc.drew ?_ | refine Acc.drewN ?_ _ | refine Acc.alloc ?_ _ | refine Acc.setCell ?_ ?_ _) | (refine leB ?_; omega)))
set_option maxRecDepth 100000 in
set_option maxHeartbeats 8000000 in
theorem specTOf_1 (m0a m0b m0c m1a m1b m1c m2a m2b m2c m3a m3b m3c m4a m4b m4c m5a m5b m5c m6a m6b m6c m7a m7b m7c m8a m8b m8c m9a m9b m9c m10a m10b m10c m11a m11b m11c m12a m12b m12c m13a m13b m13c m14a m14b m14c m15a m15b m15c : Int) (w : World) :
    Calls Tryd.prog 19 #[.agg #[.int .i64 m0a, .int .i64 m0b, .int .i64 m0c, .int .i64 m1a, .int .i64 m1b, .int .i64 m1c, .int .i64 m2a, .int .i64 m2b, .int .i64 m2c, .int .i64 m3a, .int .i64 m3b, .int .i64 m3c, .int .i64 m4a, .int .i64 m4b, .int .i64 m4c, .int .i64 m5a, .int .i64 m5b, .int .i64 m5c, .int .i64 m6a, .int .i64 m6b, .int .i64 m6c, .int .i64 m7a, .int .i64 m7b, .int .i64 m7c, .int .i64 m8a, .int .i64 m8b, .int .i64 m8c, .int .i64 m9a, .int .i64 m9b, .int .i64 m9c, .int .i64 m10a, .int .i64 m10b, .int .i64 m10c, .int .i64 m11a, .int .i64 m11b, .int .i64 m11c, .int .i64 m12a, .int .i64 m12b, .int .i64 m12c, .int .i64 m13a, .int .i64 m13b, .int .i64 m13c, .int .i64 m14a, .int .i64 m14b, .int .i64 m14c, .int .i64 m15a, .int .i64 m15b, .int .i64 m15c], .int .i64 1] w fun e w' => e = .returned (.agg #[.int .i64 m4a, .int .i64 m4b, .int .i64 m4c, .int .i64 m5a, .int .i64 m5b, .int .i64 m5c, .int .i64 m6a, .int .i64 m6b, .int .i64 m6c, .int .i64 m7a, .int .i64 m7b, .int .i64 m7c]) ∧ Below w.heap.size w w' := by
  have ew0 : IntKind.i64.wrap (4 * 1) = 4 := by decide
  have ew1 : IntKind.i64.wrap 4 = 4 := by decide
  have ew2 : IntKind.i64.wrap 5 = 5 := by decide
  have ew3 : IntKind.i64.wrap 6 = 6 := by decide
  have ew4 : IntKind.i64.wrap 7 = 7 := by decide
  have ew6 : IntKind.i64.wrap (4 + 1) = 5 := by decide
  have ew7 : IntKind.i64.wrap (4 + 2) = 6 := by decide
  have ew8 : IntKind.i64.wrap (4 + 3) = 7 := by decide
  go_enter Tryd.func19, Tryd.ntmps19
  go_upto_region 1 with fail
  go_region_held3 (fun w' => (∀ k, w'.cell? ⟨w.heap.size, k, none⟩ = [.int .i64 m0a, .int .i64 m0b, .int .i64 m0c, .int .i64 m1a, .int .i64 m1b, .int .i64 m1c, .int .i64 m2a, .int .i64 m2b, .int .i64 m2c, .int .i64 m3a, .int .i64 m3b, .int .i64 m3c, .int .i64 m4a, .int .i64 m4b, .int .i64 m4c, .int .i64 m5a, .int .i64 m5b, .int .i64 m5c, .int .i64 m6a, .int .i64 m6b, .int .i64 m6c, .int .i64 m7a, .int .i64 m7b, .int .i64 m7c, .int .i64 m8a, .int .i64 m8b, .int .i64 m8c, .int .i64 m9a, .int .i64 m9b, .int .i64 m9c, .int .i64 m10a, .int .i64 m10b, .int .i64 m10c, .int .i64 m11a, .int .i64 m11b, .int .i64 m11c, .int .i64 m12a, .int .i64 m12b, .int .i64 m12c, .int .i64 m13a, .int .i64 m13b, .int .i64 m13c, .int .i64 m14a, .int .i64 m14b, .int .i64 m14c, .int .i64 m15a, .int .i64 m15b, .int .i64 m15c][k]?))
    (((try dsimp only); (refine Blk.cell ?_ <;> (repeat' (first | (with_reducible first | assumption | refine Blk.drew ?_ | refine Blk.drewN ?_ _ | apply Blk.set | (refine Blk.new ?_; focus (first | rfl | (simp; done))) | refine Blk.alloc ?_ _ | refine Blk.other ?_ ?_ _) | exact eqL rfl | (refine neB ?_; omega))))))
    (first
      | fail)
  all_goals
    go_wp2_with fail
    refine bodyPost_ret (v := .agg #[.int .i64 m4a, .int .i64 m4b, .int .i64 m4c, .int .i64 m5a, .int .i64 m5b, .int .i64 m5c, .int .i64 m6a, .int .i64 m6b, .int .i64 m6c, .int .i64 m7a, .int .i64 m7b, .int .i64 m7c]) (by simp [results, Tryd.results19, go_sem, *]) rfl ⟨rfl, ?_⟩
    show Acc w _
    (repeat' (first | (with_reducible first | assumption | exact Acc.refl _ | refine Acc.drew ?_ | refine Acc.drewN ?_ _ | refine Acc.alloc ?_ _ | refine Acc.setCell ?_ ?_ _) | (refine leB ?_; omega)))
set_option maxRecDepth 100000 in
set_option maxHeartbeats 8000000 in
theorem specTOf_2 (m0a m0b m0c m1a m1b m1c m2a m2b m2c m3a m3b m3c m4a m4b m4c m5a m5b m5c m6a m6b m6c m7a m7b m7c m8a m8b m8c m9a m9b m9c m10a m10b m10c m11a m11b m11c m12a m12b m12c m13a m13b m13c m14a m14b m14c m15a m15b m15c : Int) (w : World) :
    Calls Tryd.prog 19 #[.agg #[.int .i64 m0a, .int .i64 m0b, .int .i64 m0c, .int .i64 m1a, .int .i64 m1b, .int .i64 m1c, .int .i64 m2a, .int .i64 m2b, .int .i64 m2c, .int .i64 m3a, .int .i64 m3b, .int .i64 m3c, .int .i64 m4a, .int .i64 m4b, .int .i64 m4c, .int .i64 m5a, .int .i64 m5b, .int .i64 m5c, .int .i64 m6a, .int .i64 m6b, .int .i64 m6c, .int .i64 m7a, .int .i64 m7b, .int .i64 m7c, .int .i64 m8a, .int .i64 m8b, .int .i64 m8c, .int .i64 m9a, .int .i64 m9b, .int .i64 m9c, .int .i64 m10a, .int .i64 m10b, .int .i64 m10c, .int .i64 m11a, .int .i64 m11b, .int .i64 m11c, .int .i64 m12a, .int .i64 m12b, .int .i64 m12c, .int .i64 m13a, .int .i64 m13b, .int .i64 m13c, .int .i64 m14a, .int .i64 m14b, .int .i64 m14c, .int .i64 m15a, .int .i64 m15b, .int .i64 m15c], .int .i64 2] w fun e w' => e = .returned (.agg #[.int .i64 m8a, .int .i64 m8b, .int .i64 m8c, .int .i64 m9a, .int .i64 m9b, .int .i64 m9c, .int .i64 m10a, .int .i64 m10b, .int .i64 m10c, .int .i64 m11a, .int .i64 m11b, .int .i64 m11c]) ∧ Below w.heap.size w w' := by
  have ew0 : IntKind.i64.wrap (4 * 2) = 8 := by decide
  have ew1 : IntKind.i64.wrap 8 = 8 := by decide
  have ew2 : IntKind.i64.wrap 9 = 9 := by decide
  have ew3 : IntKind.i64.wrap 10 = 10 := by decide
  have ew4 : IntKind.i64.wrap 11 = 11 := by decide
  have ew6 : IntKind.i64.wrap (8 + 1) = 9 := by decide
  have ew7 : IntKind.i64.wrap (8 + 2) = 10 := by decide
  have ew8 : IntKind.i64.wrap (8 + 3) = 11 := by decide
  go_enter Tryd.func19, Tryd.ntmps19
  go_upto_region 1 with fail
  go_region_held3 (fun w' => (∀ k, w'.cell? ⟨w.heap.size, k, none⟩ = [.int .i64 m0a, .int .i64 m0b, .int .i64 m0c, .int .i64 m1a, .int .i64 m1b, .int .i64 m1c, .int .i64 m2a, .int .i64 m2b, .int .i64 m2c, .int .i64 m3a, .int .i64 m3b, .int .i64 m3c, .int .i64 m4a, .int .i64 m4b, .int .i64 m4c, .int .i64 m5a, .int .i64 m5b, .int .i64 m5c, .int .i64 m6a, .int .i64 m6b, .int .i64 m6c, .int .i64 m7a, .int .i64 m7b, .int .i64 m7c, .int .i64 m8a, .int .i64 m8b, .int .i64 m8c, .int .i64 m9a, .int .i64 m9b, .int .i64 m9c, .int .i64 m10a, .int .i64 m10b, .int .i64 m10c, .int .i64 m11a, .int .i64 m11b, .int .i64 m11c, .int .i64 m12a, .int .i64 m12b, .int .i64 m12c, .int .i64 m13a, .int .i64 m13b, .int .i64 m13c, .int .i64 m14a, .int .i64 m14b, .int .i64 m14c, .int .i64 m15a, .int .i64 m15b, .int .i64 m15c][k]?))
    (((try dsimp only); (refine Blk.cell ?_ <;> (repeat' (first | (with_reducible first | assumption | refine Blk.drew ?_ | refine Blk.drewN ?_ _ | apply Blk.set | (refine Blk.new ?_; focus (first | rfl | (simp; done))) | refine Blk.alloc ?_ _ | refine Blk.other ?_ ?_ _) | exact eqL rfl | (refine neB ?_; omega))))))
    (first
      | fail)
  all_goals
    go_wp2_with fail
    refine bodyPost_ret (v := .agg #[.int .i64 m8a, .int .i64 m8b, .int .i64 m8c, .int .i64 m9a, .int .i64 m9b, .int .i64 m9c, .int .i64 m10a, .int .i64 m10b, .int .i64 m10c, .int .i64 m11a, .int .i64 m11b, .int .i64 m11c]) (by simp [results, Tryd.results19, go_sem, *]) rfl ⟨rfl, ?_⟩
    show Acc w _
    (repeat' (first | (with_reducible first | assumption | exact Acc.refl _ | refine Acc.drew ?_ | refine Acc.drewN ?_ _ | refine Acc.alloc ?_ _ | refine Acc.setCell ?_ ?_ _) | (refine leB ?_; omega)))
set_option maxRecDepth 100000 in
set_option maxHeartbeats 8000000 in
theorem specTOf_3 (m0a m0b m0c m1a m1b m1c m2a m2b m2c m3a m3b m3c m4a m4b m4c m5a m5b m5c m6a m6b m6c m7a m7b m7c m8a m8b m8c m9a m9b m9c m10a m10b m10c m11a m11b m11c m12a m12b m12c m13a m13b m13c m14a m14b m14c m15a m15b m15c : Int) (w : World) :
    Calls Tryd.prog 19 #[.agg #[.int .i64 m0a, .int .i64 m0b, .int .i64 m0c, .int .i64 m1a, .int .i64 m1b, .int .i64 m1c, .int .i64 m2a, .int .i64 m2b, .int .i64 m2c, .int .i64 m3a, .int .i64 m3b, .int .i64 m3c, .int .i64 m4a, .int .i64 m4b, .int .i64 m4c, .int .i64 m5a, .int .i64 m5b, .int .i64 m5c, .int .i64 m6a, .int .i64 m6b, .int .i64 m6c, .int .i64 m7a, .int .i64 m7b, .int .i64 m7c, .int .i64 m8a, .int .i64 m8b, .int .i64 m8c, .int .i64 m9a, .int .i64 m9b, .int .i64 m9c, .int .i64 m10a, .int .i64 m10b, .int .i64 m10c, .int .i64 m11a, .int .i64 m11b, .int .i64 m11c, .int .i64 m12a, .int .i64 m12b, .int .i64 m12c, .int .i64 m13a, .int .i64 m13b, .int .i64 m13c, .int .i64 m14a, .int .i64 m14b, .int .i64 m14c, .int .i64 m15a, .int .i64 m15b, .int .i64 m15c], .int .i64 3] w fun e w' => e = .returned (.agg #[.int .i64 m12a, .int .i64 m12b, .int .i64 m12c, .int .i64 m13a, .int .i64 m13b, .int .i64 m13c, .int .i64 m14a, .int .i64 m14b, .int .i64 m14c, .int .i64 m15a, .int .i64 m15b, .int .i64 m15c]) ∧ Below w.heap.size w w' := by
  have ew0 : IntKind.i64.wrap (4 * 3) = 12 := by decide
  have ew1 : IntKind.i64.wrap 12 = 12 := by decide
  have ew2 : IntKind.i64.wrap 13 = 13 := by decide
  have ew3 : IntKind.i64.wrap 14 = 14 := by decide
  have ew4 : IntKind.i64.wrap 15 = 15 := by decide
  have ew6 : IntKind.i64.wrap (12 + 1) = 13 := by decide
  have ew7 : IntKind.i64.wrap (12 + 2) = 14 := by decide
  have ew8 : IntKind.i64.wrap (12 + 3) = 15 := by decide
  go_enter Tryd.func19, Tryd.ntmps19
  go_upto_region 1 with fail
  go_region_held3 (fun w' => (∀ k, w'.cell? ⟨w.heap.size, k, none⟩ = [.int .i64 m0a, .int .i64 m0b, .int .i64 m0c, .int .i64 m1a, .int .i64 m1b, .int .i64 m1c, .int .i64 m2a, .int .i64 m2b, .int .i64 m2c, .int .i64 m3a, .int .i64 m3b, .int .i64 m3c, .int .i64 m4a, .int .i64 m4b, .int .i64 m4c, .int .i64 m5a, .int .i64 m5b, .int .i64 m5c, .int .i64 m6a, .int .i64 m6b, .int .i64 m6c, .int .i64 m7a, .int .i64 m7b, .int .i64 m7c, .int .i64 m8a, .int .i64 m8b, .int .i64 m8c, .int .i64 m9a, .int .i64 m9b, .int .i64 m9c, .int .i64 m10a, .int .i64 m10b, .int .i64 m10c, .int .i64 m11a, .int .i64 m11b, .int .i64 m11c, .int .i64 m12a, .int .i64 m12b, .int .i64 m12c, .int .i64 m13a, .int .i64 m13b, .int .i64 m13c, .int .i64 m14a, .int .i64 m14b, .int .i64 m14c, .int .i64 m15a, .int .i64 m15b, .int .i64 m15c][k]?))
    (((try dsimp only); (refine Blk.cell ?_ <;> (repeat' (first | (with_reducible first | assumption | refine Blk.drew ?_ | refine Blk.drewN ?_ _ | apply Blk.set | (refine Blk.new ?_; focus (first | rfl | (simp; done))) | refine Blk.alloc ?_ _ | refine Blk.other ?_ ?_ _) | exact eqL rfl | (refine neB ?_; omega))))))
    (first
      | fail)
  all_goals
    go_wp2_with fail
    refine bodyPost_ret (v := .agg #[.int .i64 m12a, .int .i64 m12b, .int .i64 m12c, .int .i64 m13a, .int .i64 m13b, .int .i64 m13c, .int .i64 m14a, .int .i64 m14b, .int .i64 m14c, .int .i64 m15a, .int .i64 m15b, .int .i64 m15c]) (by simp [results, Tryd.results19, go_sem, *]) rfl ⟨rfl, ?_⟩
    show Acc w _
    (repeat' (first | (with_reducible first | assumption | exact Acc.refl _ | refine Acc.drew ?_ | refine Acc.drewN ?_ _ | refine Acc.alloc ?_ _ | refine Acc.setCell ?_ ?_ _) | (refine leB ?_; omega)))
set_option maxRecDepth 100000 in
set_option maxHeartbeats 40000000 in
theorem specTApply_any (m0a m0b m0c m1a m1b m1c m2a m2b m2c m3a m3b m3c m4a m4b m4c m5a m5b m5c m6a m6b m6c m7a m7b m7c m8a m8b m8c m9a m9b m9c m10a m10b m10c m11a m11b m11c m12a m12b m12c m13a m13b m13c m14a m14b m14c m15a m15b m15c a1 a2 a3 b1 b2 b3 c1 c2 c3 d1 d2 d3 : Int) (w : World) :
    Calls Tryd.prog 6 #[.agg #[.int .i64 m0a, .int .i64 m0b, .int .i64 m0c, .int .i64 m1a, .int .i64 m1b, .int .i64 m1c, .int .i64 m2a, .int .i64 m2b, .int .i64 m2c, .int .i64 m3a, .int .i64 m3b, .int .i64 m3c, .int .i64 m4a, .int .i64 m4b, .int .i64 m4c, .int .i64 m5a, .int .i64 m5b, .int .i64 m5c, .int .i64 m6a, .int .i64 m6b, .int .i64 m6c, .int .i64 m7a, .int .i64 m7b, .int .i64 m7c, .int .i64 m8a, .int .i64 m8b, .int .i64 m8c, .int .i64 m9a, .int .i64 m9b, .int .i64 m9c, .int .i64 m10a, .int .i64 m10b, .int .i64 m10c, .int .i64 m11a, .int .i64 m11b, .int .i64 m11c, .int .i64 m12a, .int .i64 m12b, .int .i64 m12c, .int .i64 m13a, .int .i64 m13b, .int .i64 m13c, .int .i64 m14a, .int .i64 m14b, .int .i64 m14c, .int .i64 m15a, .int .i64 m15b, .int .i64 m15c], .agg #[.int .i64 a1, .int .i64 a2, .int .i64 a3, .int .i64 b1, .int .i64 b2, .int .i64 b3, .int .i64 c1, .int .i64 c2, .int .i64 c3, .int .i64 d1, .int .i64 d2, .int .i64 d3]] w (Gave12 (appTb (((m0a, m0b, m0c), (m1a, m1b, m1c), (m2a, m2b, m2c), (m3a, m3b, m3c)), ((m4a, m4b, m4c), (m5a, m5b, m5c), (m6a, m6b, m6c), (m7a, m7b, m7c)), ((m8a, m8b, m8c), (m9a, m9b, m9c), (m10a, m10b, m10c), (m11a, m11b, m11c)), ((m12a, m12b, m12c), (m13a, m13b, m13c), (m14a, m14b, m14c), (m15a, m15b, m15c))) ((a1, a2, a3), (b1, b2, b3), (c1, c2, c3), (d1, d2, d3))) w) := by
  obtain ⟨v0, hv⟩ : ∃ k, okTb (((m0a, m0b, m0c), (m1a, m1b, m1c), (m2a, m2b, m2c), (m3a, m3b, m3c)), ((m4a, m4b, m4c), (m5a, m5b, m5c), (m6a, m6b, m6c), (m7a, m7b, m7c)), ((m8a, m8b, m8c), (m9a, m9b, m9c), (m10a, m10b, m10c), (m11a, m11b, m11c)), ((m12a, m12b, m12c), (m13a, m13b, m13c), (m14a, m14b, m14c), (m15a, m15b, m15c))) = k := ⟨_, rfl⟩
  have V0 := Lib.hid hv
  clear hv
  obtain ⟨v1, hv⟩ : ∃ k, sValid a1 a2 a3 b1 b2 b3 c1 c2 c3 d1 d2 d3 = k := ⟨_, rfl⟩
  have V1 := Lib.hid hv
  clear hv
  obtain ⟨⟨ra1, ra2, ra3⟩, hv⟩ : ∃ o, rowV ((m0a, m0b, m0c), (m1a, m1b, m1c), (m2a, m2b, m2c), (m3a, m3b, m3c)) ((a1, a2, a3), (b1, b2, b3), (c1, c2, c3), (d1, d2, d3)) = o := ⟨_, rfl⟩
  obtain ⟨f0, hk⟩ : ∃ k, rowK ((m0a, m0b, m0c), (m1a, m1b, m1c), (m2a, m2b, m2c), (m3a, m3b, m3c)) ((a1, a2, a3), (b1, b2, b3), (c1, c2, c3), (d1, d2, d3)) = k := ⟨_, rfl⟩
  have C0 := Lib.hid hv
  have D0 := Lib.hid hk
  clear hv hk
  obtain ⟨⟨rb1, rb2, rb3⟩, hv⟩ : ∃ o, rowV ((m4a, m4b, m4c), (m5a, m5b, m5c), (m6a, m6b, m6c), (m7a, m7b, m7c)) ((a1, a2, a3), (b1, b2, b3), (c1, c2, c3), (d1, d2, d3)) = o := ⟨_, rfl⟩
  obtain ⟨f1, hk⟩ : ∃ k, rowK ((m4a, m4b, m4c), (m5a, m5b, m5c), (m6a, m6b, m6c), (m7a, m7b, m7c)) ((a1, a2, a3), (b1, b2, b3), (c1, c2, c3), (d1, d2, d3)) = k := ⟨_, rfl⟩
  have C1 := Lib.hid hv
  have D1 := Lib.hid hk
  clear hv hk
  obtain ⟨⟨rc1, rc2, rc3⟩, hv⟩ : ∃ o, rowV ((m8a, m8b, m8c), (m9a, m9b, m9c), (m10a, m10b, m10c), (m11a, m11b, m11c)) ((a1, a2, a3), (b1, b2, b3), (c1, c2, c3), (d1, d2, d3)) = o := ⟨_, rfl⟩
  obtain ⟨f2, hk⟩ : ∃ k, rowK ((m8a, m8b, m8c), (m9a, m9b, m9c), (m10a, m10b, m10c), (m11a, m11b, m11c)) ((a1, a2, a3), (b1, b2, b3), (c1, c2, c3), (d1, d2, d3)) = k := ⟨_, rfl⟩
  have C2 := Lib.hid hv
  have D2 := Lib.hid hk
  clear hv hk
  obtain ⟨⟨rd1, rd2, rd3⟩, hv⟩ : ∃ o, rowV ((m12a, m12b, m12c), (m13a, m13b, m13c), (m14a, m14b, m14c), (m15a, m15b, m15c)) ((a1, a2, a3), (b1, b2, b3), (c1, c2, c3), (d1, d2, d3)) = o := ⟨_, rfl⟩
  obtain ⟨f3, hk⟩ : ∃ k, rowK ((m12a, m12b, m12c), (m13a, m13b, m13c), (m14a, m14b, m14c), (m15a, m15b, m15c)) ((a1, a2, a3), (b1, b2, b3), (c1, c2, c3), (d1, d2, d3)) = k := ⟨_, rfl⟩
  have C3 := Lib.hid hv
  have D3 := Lib.hid hk
  clear hv hk
  obtain ⟨o, E⟩ : ∃ o, appTb (((m0a, m0b, m0c), (m1a, m1b, m1c), (m2a, m2b, m2c), (m3a, m3b, m3c)), ((m4a, m4b, m4c), (m5a, m5b, m5c), (m6a, m6b, m6c), (m7a, m7b, m7c)), ((m8a, m8b, m8c), (m9a, m9b, m9c), (m10a, m10b, m10c), (m11a, m11b, m11c)), ((m12a, m12b, m12c), (m13a, m13b, m13c), (m14a, m14b, m14c), (m15a, m15b, m15c))) ((a1, a2, a3), (b1, b2, b3), (c1, c2, c3), (d1, d2, d3)) = o := ⟨_, rfl⟩
  rw [E]
  have HE := Lib.hid E
  clear E
  have HS : RowKit.Hid ((Tryd.prog.info? 33).map (·.size) = some 12) := Lib.hid (by kernel_rfl)
  go_enter Tryd.func6, Tryd.ntmps6
  have HI : RowKit.Hid ((Tryd.prog.info? 38).map (·.size) = some 48) := Lib.hid (by kernel_rfl)
  go_wp2_with (refine wpList_load_mid rfl 38 _ rfl (w.heap.size) 0 rfl [.int .i64 m0a, .int .i64 m0b, .int .i64 m0c, .int .i64 m1a, .int .i64 m1b, .int .i64 m1c, .int .i64 m2a, .int .i64 m2b, .int .i64 m2c, .int .i64 m3a, .int .i64 m3b, .int .i64 m3c, .int .i64 m4a, .int .i64 m4b, .int .i64 m4c, .int .i64 m5a, .int .i64 m5b, .int .i64 m5c, .int .i64 m6a, .int .i64 m6b, .int .i64 m6c, .int .i64 m7a, .int .i64 m7b, .int .i64 m7c, .int .i64 m8a, .int .i64 m8b, .int .i64 m8c, .int .i64 m9a, .int .i64 m9b, .int .i64 m9c, .int .i64 m10a, .int .i64 m10b, .int .i64 m10c, .int .i64 m11a, .int .i64 m11b, .int .i64 m11c, .int .i64 m12a, .int .i64 m12b, .int .i64 m12c, .int .i64 m13a, .int .i64 m13b, .int .i64 m13c, .int .i64 m14a, .int .i64 m14b, .int .i64 m14c, .int .i64 m15a, .int .i64 m15b, .int .i64 m15c] _ ?hc Tryd.underlying38 rfl HI.out ?_)
  case hc =>
    refine range_of (Blk.cell ?_)
    (repeat' (first | (with_reducible first | assumption | refine Blk.drew ?_ | refine Blk.drewN ?_ _ | apply Blk.set | (refine Blk.new ?_; focus (first | rfl | (simp; done))) | refine Blk.alloc ?_ _ | refine Blk.other ?_ ?_ _) | exact eqL rfl | (refine neB ?_; omega)))
  refine (valid_at V0.out (specTValid_any m0a m0b m0c m1a m1b m1c m2a m2b m2c m3a m3b m3c m4a m4b m4c m5a m5b m5c m6a m6b m6c m7a m7b m7c m8a m8b m8c m9a m9b m9c m10a m10b m10c m11a m11b m11c m12a m12b m12c m13a m13b m13c m14a m14b m14c m15a m15b m15c _)).mono ?_
  rintro e W1 ⟨rfl, hb⟩
  have Ba : Blk W1 (w.heap.size) [.int .i64 m0a, .int .i64 m0b, .int .i64 m0c, .int .i64 m1a, .int .i64 m1b, .int .i64 m1c, .int .i64 m2a, .int .i64 m2b, .int .i64 m2c, .int .i64 m3a, .int .i64 m3b, .int .i64 m3c, .int .i64 m4a, .int .i64 m4b, .int .i64 m4c, .int .i64 m5a, .int .i64 m5b, .int .i64 m5c, .int .i64 m6a, .int .i64 m6b, .int .i64 m6c, .int .i64 m7a, .int .i64 m7b, .int .i64 m7c, .int .i64 m8a, .int .i64 m8b, .int .i64 m8c, .int .i64 m9a, .int .i64 m9b, .int .i64 m9c, .int .i64 m10a, .int .i64 m10b, .int .i64 m10c, .int .i64 m11a, .int .i64 m11b, .int .i64 m11c, .int .i64 m12a, .int .i64 m12b, .int .i64 m12c, .int .i64 m13a, .int .i64 m13b, .int .i64 m13c, .int .i64 m14a, .int .i64 m14b, .int .i64 m14c, .int .i64 m15a, .int .i64 m15b, .int .i64 m15c] := Blk.keep hb (by repeat' (first | (with_reducible first | assumption | refine Blk.drew ?_ | refine Blk.drewN ?_ _ | apply Blk.set | (refine Blk.new ?_; focus (first | rfl | (simp; done))) | refine Blk.alloc ?_ _ | refine Blk.other ?_ ?_ _) | exact eqL rfl | (refine neB ?_; omega)))
  have Bb : Blk W1 (w.heap.size + 1) [.int .i64 a1, .int .i64 a2, .int .i64 a3, .int .i64 b1, .int .i64 b2, .int .i64 b3, .int .i64 c1, .int .i64 c2, .int .i64 c3, .int .i64 d1, .int .i64 d2, .int .i64 d3] := Blk.keep hb (by repeat' (first | (with_reducible first | assumption | refine Blk.drew ?_ | refine Blk.drewN ?_ _ | apply Blk.set | (refine Blk.new ?_; focus (first | rfl | (simp; done))) | refine Blk.alloc ?_ _ | refine Blk.other ?_ ?_ _) | exact eqL rfl | (refine neB ?_; omega)))
  have Br : Blk W1 (w.heap.size + 1 + 1) [.int .i64 0, .int .i64 0, .int .i64 0, .int .i64 0, .int .i64 0, .int .i64 0, .int .i64 0, .int .i64 0, .int .i64 0, .int .i64 0, .int .i64 0, .int .i64 0] := Blk.keep hb (by repeat' (first | (with_reducible first | assumption | refine Blk.drew ?_ | refine Blk.drewN ?_ _ | apply Blk.set | (refine Blk.new ?_; focus (first | rfl | (simp; done))) | refine Blk.alloc ?_ _ | refine Blk.other ?_ ?_ _) | exact eqL rfl | (refine neB ?_; omega)))
  have ca := Ba.cell
  have fa := Ba.free
  have la_W1 := Ba.lt
  have cb := Bb.cell
  have fb := Bb.free
  have lb_W1 := Bb.lt
  have cr := Br.cell
  have fr := Br.free
  have lr_W1 := Br.lt
  have kaW1 : Acc w W1 := by
    refine Acc.call ?_ hb
    (repeat' (first | (with_reducible first | assumption | exact Acc.refl _ | refine Acc.drew ?_ | refine Acc.drewN ?_ _ | refine Acc.alloc ?_ _ | refine Acc.setCell ?_ ?_ _) | (refine leB ?_; omega)))
  clear hb
  cases v0 with
  | false =>
    obtain rfl : o = none := HE.out.symm.trans (appTb_not1 V0.out)
    go_wp2_with fail
    refine wp_loop_rounds 5 ?_
    rw [rounds_succ]
    go_wp2_with fail
    refine bodyPost_ret (v := .tuple #[.agg #[.int .i64 0, .int .i64 0, .int .i64 0, .int .i64 0, .int .i64 0, .int .i64 0, .int .i64 0, .int .i64 0, .int .i64 0, .int .i64 0, .int .i64 0, .int .i64 0], .bool false]) (by simp [results, Tryd.results6, go_sem, *]) rfl ⟨fun _ _ _ _ _ _ _ _ _ _ _ _ h => (by cases h), fun _ => rfl, ?_⟩
    show Acc w _
    (repeat' (first | (with_reducible first | assumption | exact Acc.refl _ | refine Acc.drew ?_ | refine Acc.drewN ?_ _ | refine Acc.alloc ?_ _ | refine Acc.setCell ?_ ?_ _) | (refine leB ?_; omega)))
  | true =>
    go_wp2_with fail
    refine (valid_at V1.out (specSValid_any a1 a2 a3 b1 b2 b3 c1 c2 c3 d1 d2 d3 _)).mono ?_
    rintro e W2 ⟨rfl, hb⟩
    have Ba : Blk W2 (w.heap.size) [.int .i64 m0a, .int .i64 m0b, .int .i64 m0c, .int .i64 m1a, .int .i64 m1b, .int .i64 m1c, .int .i64 m2a, .int .i64 m2b, .int .i64 m2c, .int .i64 m3a, .int .i64 m3b, .int .i64 m3c, .int .i64 m4a, .int .i64 m4b, .int .i64 m4c, .int .i64 m5a, .int .i64 m5b, .int .i64 m5c, .int .i64 m6a, .int .i64 m6b, .int .i64 m6c, .int .i64 m7a, .int .i64 m7b, .int .i64 m7c, .int .i64 m8a, .int .i64 m8b, .int .i64 m8c, .int .i64 m9a, .int .i64 m9b, .int .i64 m9c, .int .i64 m10a, .int .i64 m10b, .int .i64 m10c, .int .i64 m11a, .int .i64 m11b, .int .i64 m11c, .int .i64 m12a, .int .i64 m12b, .int .i64 m12c, .int .i64 m13a, .int .i64 m13b, .int .i64 m13c, .int .i64 m14a, .int .i64 m14b, .int .i64 m14c, .int .i64 m15a, .int .i64 m15b, .int .i64 m15c] := Blk.keep hb (by repeat' (first | (with_reducible first | assumption | refine Blk.drew ?_ | refine Blk.drewN ?_ _ | apply Blk.set | (refine Blk.new ?_; focus (first | rfl | (simp; done))) | refine Blk.alloc ?_ _ | refine Blk.other ?_ ?_ _) | exact eqL rfl | (refine neB ?_; omega)))
    have Bb : Blk W2 (w.heap.size + 1) [.int .i64 a1, .int .i64 a2, .int .i64 a3, .int .i64 b1, .int .i64 b2, .int .i64 b3, .int .i64 c1, .int .i64 c2, .int .i64 c3, .int .i64 d1, .int .i64 d2, .int .i64 d3] := Blk.keep hb (by repeat' (first | (with_reducible first | assumption | refine Blk.drew ?_ | refine Blk.drewN ?_ _ | apply Blk.set | (refine Blk.new ?_; focus (first | rfl | (simp; done))) | refine Blk.alloc ?_ _ | refine Blk.other ?_ ?_ _) | exact eqL rfl | (refine neB ?_; omega)))
    have Br : Blk W2 (w.heap.size + 1 + 1) [.int .i64 0, .int .i64 0, .int .i64 0, .int .i64 0, .int .i64 0, .int .i64 0, .int .i64 0, .int .i64 0, .int .i64 0, .int .i64 0, .int .i64 0, .int .i64 0] := Blk.keep hb (by repeat' (first | (with_reducible first | assumption | refine Blk.drew ?_ | refine Blk.drewN ?_ _ | apply Blk.set | (refine Blk.new ?_; focus (first | rfl | (simp; done))) | refine Blk.alloc ?_ _ | refine Blk.other ?_ ?_ _) | exact eqL rfl | (refine neB ?_; omega)))
    have ca := Ba.cell
    have fa := Ba.free
    have la_W2 := Ba.lt
    have cb := Bb.cell
    have fb := Bb.free
    have lb_W2 := Bb.lt
    have cr := Br.cell
    have fr := Br.free
    have lr_W2 := Br.lt
    have kaW2 : Acc w W2 := by
      refine Acc.call ?_ hb
      (repeat' (first | (with_reducible first | assumption | exact Acc.refl _ | refine Acc.drew ?_ | refine Acc.drewN ?_ _ | refine Acc.alloc ?_ _ | refine Acc.setCell ?_ ?_ _) | (refine leB ?_; omega)))
    clear hb
    cases v1 with
    | false =>
      obtain rfl : o = none := HE.out.symm.trans (appTb_not2 (show rl4 _ = false from V1.out))
      go_wp2_with fail
      refine wp_loop_rounds 5 ?_
      rw [rounds_succ]
      go_wp2_with fail
      refine bodyPost_ret (v := .tuple #[.agg #[.int .i64 0, .int .i64 0, .int .i64 0, .int .i64 0, .int .i64 0, .int .i64 0, .int .i64 0, .int .i64 0, .int .i64 0, .int .i64 0, .int .i64 0, .int .i64 0], .bool false]) (by simp [results, Tryd.results6, go_sem, *]) rfl ⟨fun _ _ _ _ _ _ _ _ _ _ _ _ h => (by cases h), fun _ => rfl, ?_⟩
      show Acc w _
      (repeat' (first | (with_reducible first | assumption | exact Acc.refl _ | refine Acc.drew ?_ | refine Acc.drewN ?_ _ | refine Acc.alloc ?_ _ | refine Acc.setCell ?_ ?_ _) | (refine leB ?_; omega)))
    | true =>
      go_wp2_with fail
      refine wp_loop_rounds 5 ?_
      rw [rounds_succ]
      go_wp2_with fail
      refine wp_region_held_drew (S := fun w' => (∀ k, w'.cell? ⟨w.heap.size, k, none⟩ = [.int .i64 m0a, .int .i64 m0b, .int .i64 m0c, .int .i64 m1a, .int .i64 m1b, .int .i64 m1c, .int .i64 m2a, .int .i64 m2b, .int .i64 m2c, .int .i64 m3a, .int .i64 m3b, .int .i64 m3c, .int .i64 m4a, .int .i64 m4b, .int .i64 m4c, .int .i64 m5a, .int .i64 m5b, .int .i64 m5c, .int .i64 m6a, .int .i64 m6b, .int .i64 m6c, .int .i64 m7a, .int .i64 m7b, .int .i64 m7c, .int .i64 m8a, .int .i64 m8b, .int .i64 m8c, .int .i64 m9a, .int .i64 m9b, .int .i64 m9c, .int .i64 m10a, .int .i64 m10b, .int .i64 m10c, .int .i64 m11a, .int .i64 m11b, .int .i64 m11c, .int .i64 m12a, .int .i64 m12b, .int .i64 m12c, .int .i64 m13a, .int .i64 m13b, .int .i64 m13c, .int .i64 m14a, .int .i64 m14b, .int .i64 m14c, .int .i64 m15a, .int .i64 m15b, .int .i64 m15c][k]?) ∧ (∀ k, w'.cell? ⟨w.heap.size + 1, k, none⟩ = [.int .i64 a1, .int .i64 a2, .int .i64 a3, .int .i64 b1, .int .i64 b2, .int .i64 b3, .int .i64 c1, .int .i64 c2, .int .i64 c3, .int .i64 d1, .int .i64 d2, .int .i64 d3][k]?)) (by kernel_rfl) ?_ (fun hHeld0 => ?_)
      · (((try dsimp only); (refine ⟨Blk.cell ?_, Blk.cell ?_⟩ <;> (repeat' (first | (with_reducible first | assumption | refine Blk.drew ?_ | refine Blk.drewN ?_ _ | apply Blk.set | (refine Blk.new ?_; focus (first | rfl | (simp; done))) | refine Blk.alloc ?_ _ | refine Blk.other ?_ ?_ _) | exact eqL rfl | (refine neB ?_; omega))))))
      refine wpAnyH_take (i := 0) (v := ?v1) rfl (by kernel_rfl) (by kernel_rfl) (by kernel_rfl) (fun _ _ _ h => h) (Or.inl ⟨by rfl, ?y1⟩) (by assumption) ?r1
      case y1 =>
        intro w hSw
        (try dsimp only at hSw)
        go_simp
        (try with_reducible rfl)
      (try simp only [Act.put, List.setIfInBounds_toArray, List.set_cons_zero, List.set_cons_succ, List.getElem_toArray, List.getElem_cons_zero, List.getElem_cons_succ])
      refine wpAnyH_take (i := 1) (v := ?v2) rfl (by kernel_rfl) (by kernel_rfl) (by kernel_rfl) (fun _ _ _ h => h) (Or.inl ⟨by rfl, ?y2⟩) (by assumption) ?r2
      case y2 =>
        intro w hSw
        (try dsimp only at hSw)
        go_simp
        (try with_reducible rfl)
      (try simp only [Act.put, List.setIfInBounds_toArray, List.set_cons_zero, List.set_cons_succ, List.getElem_toArray, List.getElem_cons_zero, List.getElem_cons_succ])
      refine wpAnyH_take (i := 2) (v := .agg (#[.int .i64 m0a, .int .i64 m0b, .int .i64 m0c, .int .i64 m1a, .int .i64 m1b, .int .i64 m1c, .int .i64 m2a, .int .i64 m2b, .int .i64 m2c, .int .i64 m3a, .int .i64 m3b, .int .i64 m3c, .int .i64 m4a, .int .i64 m4b, .int .i64 m4c, .int .i64 m5a, .int .i64 m5b, .int .i64 m5c, .int .i64 m6a, .int .i64 m6b, .int .i64 m6c, .int .i64 m7a, .int .i64 m7b, .int .i64 m7c, .int .i64 m8a, .int .i64 m8b, .int .i64 m8c, .int .i64 m9a, .int .i64 m9b, .int .i64 m9c, .int .i64 m10a, .int .i64 m10b, .int .i64 m10c, .int .i64 m11a, .int .i64 m11b, .int .i64 m11c, .int .i64 m12a, .int .i64 m12b, .int .i64 m12c, .int .i64 m13a, .int .i64 m13b, .int .i64 m13c, .int .i64 m14a, .int .i64 m14b, .int .i64 m14c, .int .i64 m15a, .int .i64 m15b, .int .i64 m15c])) rfl (by kernel_rfl) (by kernel_rfl) (by kernel_rfl) (fun _ _ _ h => h) (yieldsIf_load_mid (by rfl) 38 _ rfl (w.heap.size) 0 rfl [.int .i64 m0a, .int .i64 m0b, .int .i64 m0c, .int .i64 m1a, .int .i64 m1b, .int .i64 m1c, .int .i64 m2a, .int .i64 m2b, .int .i64 m2c, .int .i64 m3a, .int .i64 m3b, .int .i64 m3c, .int .i64 m4a, .int .i64 m4b, .int .i64 m4c, .int .i64 m5a, .int .i64 m5b, .int .i64 m5c, .int .i64 m6a, .int .i64 m6b, .int .i64 m6c, .int .i64 m7a, .int .i64 m7b, .int .i64 m7c, .int .i64 m8a, .int .i64 m8b, .int .i64 m8c, .int .i64 m9a, .int .i64 m9b, .int .i64 m9c, .int .i64 m10a, .int .i64 m10b, .int .i64 m10c, .int .i64 m11a, .int .i64 m11b, .int .i64 m11c, .int .i64 m12a, .int .i64 m12b, .int .i64 m12c, .int .i64 m13a, .int .i64 m13b, .int .i64 m13c, .int .i64 m14a, .int .i64 m14b, .int .i64 m14c, .int .i64 m15a, .int .i64 m15b, .int .i64 m15c] _ ?y3 Tryd.underlying38 rfl HI.out) (by assumption) ?r3
      case y3 =>
        intro w hSw
        exact range_of hSw.1
      (try simp only [Act.put, List.setIfInBounds_toArray, List.set_cons_zero, List.set_cons_succ, List.getElem_toArray, List.getElem_cons_zero, List.getElem_cons_succ])
      refine wpAnyH_take (i := 3) (v := ?v4) rfl (by kernel_rfl) (by kernel_rfl) (by kernel_rfl) (fun _ _ _ h => h) (Or.inl ⟨by rfl, ?y4⟩) (by assumption) ?r4
      case y4 =>
        intro w hSw
        (try dsimp only at hSw)
        go_simp
        (try with_reducible rfl)
      (try simp only [Act.put, List.setIfInBounds_toArray, List.set_cons_zero, List.set_cons_succ, List.getElem_toArray, List.getElem_cons_zero, List.getElem_cons_succ])
      refine wpAnyH_take (i := 5) (v := ?v5) rfl (by kernel_rfl) (by kernel_rfl) (by kernel_rfl) (fun _ _ _ h => h) (Or.inl ⟨by rfl, ?y5⟩) (by assumption) ?r5
      case y5 =>
        intro w hSw
        (try dsimp only at hSw)
        go_simp
        (try with_reducible rfl)
      (try simp only [Act.put, List.setIfInBounds_toArray, List.set_cons_zero, List.set_cons_succ, List.getElem_toArray, List.getElem_cons_zero, List.getElem_cons_succ])
      refine wpAnyH_take (i := 6) (v := ?v6) rfl (by kernel_rfl) (by kernel_rfl) (by kernel_rfl) (fun _ _ _ h => h) (Or.inl ⟨by rfl, ?y6⟩) (by assumption) ?r6
      case y6 =>
        intro w hSw
        (try dsimp only at hSw)
        go_simp
        (try with_reducible rfl)
      (try simp only [Act.put, List.setIfInBounds_toArray, List.set_cons_zero, List.set_cons_succ, List.getElem_toArray, List.getElem_cons_zero, List.getElem_cons_succ])
      refine wpAnyH_take (i := 8) (v := ?v7) rfl (by kernel_rfl) (by kernel_rfl) (by kernel_rfl) (fun _ _ _ h => h) (Or.inl ⟨by rfl, ?y7⟩) (by assumption) ?r7
      case y7 =>
        intro w hSw
        (try dsimp only at hSw)
        go_simp
        (try with_reducible rfl)
      (try simp only [Act.put, List.setIfInBounds_toArray, List.set_cons_zero, List.set_cons_succ, List.getElem_toArray, List.getElem_cons_zero, List.getElem_cons_succ])
      refine wpAnyH_ready (rs := [4]) (by kernel_rfl) (by simp) ?_
      refine AllReadyH.cons rfl (fun K hK => ?_) AllReadyH.nil
      go_simp
      go_at_call 19; refine (specTOf_0 m0a m0b m0c m1a m1b m1c m2a m2b m2c m3a m3b m3c m4a m4b m4c m5a m5b m5c m6a m6b m6c m7a m7b m7c m8a m8b m8c m9a m9b m9c m10a m10b m10c m11a m11b m11c m12a m12b m12c m13a m13b m13c m14a m14b m14c m15a m15b m15c _).mono ?_; rintro e W8 ⟨rfl, hb⟩; have Ba : Blk W8 (w.heap.size) [.int .i64 m0a, .int .i64 m0b, .int .i64 m0c, .int .i64 m1a, .int .i64 m1b, .int .i64 m1c, .int .i64 m2a, .int .i64 m2b, .int .i64 m2c, .int .i64 m3a, .int .i64 m3b, .int .i64 m3c, .int .i64 m4a, .int .i64 m4b, .int .i64 m4c, .int .i64 m5a, .int .i64 m5b, .int .i64 m5c, .int .i64 m6a, .int .i64 m6b, .int .i64 m6c, .int .i64 m7a, .int .i64 m7b, .int .i64 m7c, .int .i64 m8a, .int .i64 m8b, .int .i64 m8c, .int .i64 m9a, .int .i64 m9b, .int .i64 m9c, .int .i64 m10a, .int .i64 m10b, .int .i64 m10c, .int .i64 m11a, .int .i64 m11b, .int .i64 m11c, .int .i64 m12a, .int .i64 m12b, .int .i64 m12c, .int .i64 m13a, .int .i64 m13b, .int .i64 m13c, .int .i64 m14a, .int .i64 m14b, .int .i64 m14c, .int .i64 m15a, .int .i64 m15b, .int .i64 m15c] := Blk.keep hb (by repeat' (first | (with_reducible first | assumption | refine Blk.drew ?_ | refine Blk.drewN ?_ _ | apply Blk.set | (refine Blk.new ?_; focus (first | rfl | (simp; done))) | refine Blk.alloc ?_ _ | refine Blk.other ?_ ?_ _) | exact eqL rfl | (refine neB ?_; omega))); have Bb : Blk W8 (w.heap.size + 1) [.int .i64 a1, .int .i64 a2, .int .i64 a3, .int .i64 b1, .int .i64 b2, .int .i64 b3, .int .i64 c1, .int .i64 c2, .int .i64 c3, .int .i64 d1, .int .i64 d2, .int .i64 d3] := Blk.keep hb (by repeat' (first | (with_reducible first | assumption | refine Blk.drew ?_ | refine Blk.drewN ?_ _ | apply Blk.set | (refine Blk.new ?_; focus (first | rfl | (simp; done))) | refine Blk.alloc ?_ _ | refine Blk.other ?_ ?_ _) | exact eqL rfl | (refine neB ?_; omega))); have Br : Blk W8 (w.heap.size + 1 + 1) [.int .i64 0, .int .i64 0, .int .i64 0, .int .i64 0, .int .i64 0, .int .i64 0, .int .i64 0, .int .i64 0, .int .i64 0, .int .i64 0, .int .i64 0, .int .i64 0] := Blk.keep hb (by repeat' (first | (with_reducible first | assumption | refine Blk.drew ?_ | refine Blk.drewN ?_ _ | apply Blk.set | (refine Blk.new ?_; focus (first | rfl | (simp; done))) | refine Blk.alloc ?_ _ | refine Blk.other ?_ ?_ _) | exact eqL rfl | (refine neB ?_; omega))); have Bfl : Blk W8 (W2.heap.size) [.bool true] := Blk.keep hb (by repeat' (first | (with_reducible first | assumption | refine Blk.drew ?_ | refine Blk.drewN ?_ _ | apply Blk.set | (refine Blk.new ?_; focus (first | rfl | (simp; done))) | refine Blk.alloc ?_ _ | refine Blk.other ?_ ?_ _) | exact eqL rfl | (refine neB ?_; omega))); have Bo : Blk W8 (W2.heap.size + 1) [.int .i64 0, .int .i64 0, .int .i64 0, .int .i64 0, .int .i64 0, .int .i64 0, .int .i64 0, .int .i64 0, .int .i64 0, .int .i64 0, .int .i64 0, .int .i64 0] := Blk.keep hb (by repeat' (first | (with_reducible first | assumption | refine Blk.drew ?_ | refine Blk.drewN ?_ _ | apply Blk.set | (refine Blk.new ?_; focus (first | rfl | (simp; done))) | refine Blk.alloc ?_ _ | refine Blk.other ?_ ?_ _) | exact eqL rfl | (refine neB ?_; omega))); have ca := Ba.cell; have fa := Ba.free; have la_W8 := Ba.lt; have cb := Bb.cell; have fb := Bb.free; have lb_W8 := Bb.lt; have cr := Br.cell; have fr := Br.free; have lr_W8 := Br.lt; have cfl := Bfl.cell; have ffl := Bfl.free; have lfl_W8 := Bfl.lt; have co := Bo.cell; have fo := Bo.free; have lo_W8 := Bo.lt; have kaW8 : Acc w W8 := (by refine Acc.call ?_ hb; (repeat' (first | (with_reducible first | assumption | exact Acc.refl _ | refine Acc.drew ?_ | refine Acc.drewN ?_ _ | refine Acc.alloc ?_ _ | refine Acc.setCell ?_ ?_ _) | (refine leB ?_; omega)))); clear hb
      refine hK.out _ _ ?_ (fun hHeld8 => ?_)
      · (((try dsimp only); (refine ⟨Blk.cell ?_, Blk.cell ?_⟩ <;> (repeat' (first | (with_reducible first | assumption | refine Blk.drew ?_ | refine Blk.drewN ?_ _ | apply Blk.set | (refine Blk.new ?_; focus (first | rfl | (simp; done))) | refine Blk.alloc ?_ _ | refine Blk.other ?_ ?_ _) | exact eqL rfl | (refine neB ?_; omega))))))
      clear hK K hHeld0
      (try simp only [Act.put, List.setIfInBounds_toArray, List.set_cons_zero, List.set_cons_succ, List.getElem_toArray, List.getElem_cons_zero, List.getElem_cons_succ])
      refine wpAnyH_ready (rs := [7]) (by kernel_rfl) (by simp) ?_
      refine AllReadyH.cons rfl (fun K hK => ?_) AllReadyH.nil
      go_simp
      go_at_call 18; refine (specTRow_at C0.out D0.out (show (true && f0) = f0 from rfl) _ _ (by repeat' (first | (with_reducible first | assumption | refine Blk.drew ?_ | refine Blk.drewN ?_ _ | apply Blk.set | (refine Blk.new ?_; focus (first | rfl | (simp; done))) | refine Blk.alloc ?_ _ | refine Blk.other ?_ ?_ _) | exact eqL rfl | (refine neB ?_; omega)))).mono ?_; rintro e W9 ⟨rfl, Bfl, ho⟩; have Ba : Blk W9 (w.heap.size) [.int .i64 m0a, .int .i64 m0b, .int .i64 m0c, .int .i64 m1a, .int .i64 m1b, .int .i64 m1c, .int .i64 m2a, .int .i64 m2b, .int .i64 m2c, .int .i64 m3a, .int .i64 m3b, .int .i64 m3c, .int .i64 m4a, .int .i64 m4b, .int .i64 m4c, .int .i64 m5a, .int .i64 m5b, .int .i64 m5c, .int .i64 m6a, .int .i64 m6b, .int .i64 m6c, .int .i64 m7a, .int .i64 m7b, .int .i64 m7c, .int .i64 m8a, .int .i64 m8b, .int .i64 m8c, .int .i64 m9a, .int .i64 m9b, .int .i64 m9c, .int .i64 m10a, .int .i64 m10b, .int .i64 m10c, .int .i64 m11a, .int .i64 m11b, .int .i64 m11c, .int .i64 m12a, .int .i64 m12b, .int .i64 m12c, .int .i64 m13a, .int .i64 m13b, .int .i64 m13c, .int .i64 m14a, .int .i64 m14b, .int .i64 m14c, .int .i64 m15a, .int .i64 m15b, .int .i64 m15c] := Blk.keepo ho (neB (by omega)) (by repeat' (first | (with_reducible first | assumption | refine Blk.drew ?_ | refine Blk.drewN ?_ _ | apply Blk.set | (refine Blk.new ?_; focus (first | rfl | (simp; done))) | refine Blk.alloc ?_ _ | refine Blk.other ?_ ?_ _) | exact eqL rfl | (refine neB ?_; omega))); have Bb : Blk W9 (w.heap.size + 1) [.int .i64 a1, .int .i64 a2, .int .i64 a3, .int .i64 b1, .int .i64 b2, .int .i64 b3, .int .i64 c1, .int .i64 c2, .int .i64 c3, .int .i64 d1, .int .i64 d2, .int .i64 d3] := Blk.keepo ho (neB (by omega)) (by repeat' (first | (with_reducible first | assumption | refine Blk.drew ?_ | refine Blk.drewN ?_ _ | apply Blk.set | (refine Blk.new ?_; focus (first | rfl | (simp; done))) | refine Blk.alloc ?_ _ | refine Blk.other ?_ ?_ _) | exact eqL rfl | (refine neB ?_; omega))); have Br : Blk W9 (w.heap.size + 1 + 1) [.int .i64 0, .int .i64 0, .int .i64 0, .int .i64 0, .int .i64 0, .int .i64 0, .int .i64 0, .int .i64 0, .int .i64 0, .int .i64 0, .int .i64 0, .int .i64 0] := Blk.keepo ho (neB (by omega)) (by repeat' (first | (with_reducible first | assumption | refine Blk.drew ?_ | refine Blk.drewN ?_ _ | apply Blk.set | (refine Blk.new ?_; focus (first | rfl | (simp; done))) | refine Blk.alloc ?_ _ | refine Blk.other ?_ ?_ _) | exact eqL rfl | (refine neB ?_; omega))); have Bo : Blk W9 (W2.heap.size + 1) [.int .i64 0, .int .i64 0, .int .i64 0, .int .i64 0, .int .i64 0, .int .i64 0, .int .i64 0, .int .i64 0, .int .i64 0, .int .i64 0, .int .i64 0, .int .i64 0] := Blk.keepo ho (neB (by omega)) (by repeat' (first | (with_reducible first | assumption | refine Blk.drew ?_ | refine Blk.drewN ?_ _ | apply Blk.set | (refine Blk.new ?_; focus (first | rfl | (simp; done))) | refine Blk.alloc ?_ _ | refine Blk.other ?_ ?_ _) | exact eqL rfl | (refine neB ?_; omega))); have ca := Ba.cell; have fa := Ba.free; have la_W9 := Ba.lt; have cb := Bb.cell; have fb := Bb.free; have lb_W9 := Bb.lt; have cr := Br.cell; have fr := Br.free; have lr_W9 := Br.lt; have cfl := Bfl.cell; have ffl := Bfl.free; have lfl_W9 := Bfl.lt; have co := Bo.cell; have fo := Bo.free; have lo_W9 := Bo.lt; have kaW9 : Acc w W9 := (by refine Acc.only ?_ (leB (by omega)) ho; (repeat' (first | (with_reducible first | assumption | exact Acc.refl _ | refine Acc.drew ?_ | refine Acc.drewN ?_ _ | refine Acc.alloc ?_ _ | refine Acc.setCell ?_ ?_ _) | (refine leB ?_; omega)))); have lsW9 := ho.size; clear ho
      refine hK.out _ _ ?_ (fun hHeld9 => ?_)
      · (((try dsimp only); (refine ⟨Blk.cell ?_, Blk.cell ?_⟩ <;> (repeat' (first | (with_reducible first | assumption | refine Blk.drew ?_ | refine Blk.drewN ?_ _ | apply Blk.set | (refine Blk.new ?_; focus (first | rfl | (simp; done))) | refine Blk.alloc ?_ _ | refine Blk.other ?_ ?_ _) | exact eqL rfl | (refine neB ?_; omega))))))
      clear hK K hHeld8
      (try simp only [Act.put, List.setIfInBounds_toArray, List.set_cons_zero, List.set_cons_succ, List.getElem_toArray, List.getElem_cons_zero, List.getElem_cons_succ])
      refine wpAnyH_take (i := 9) (v := ?v10) rfl (by kernel_rfl) (by kernel_rfl) (by kernel_rfl) (fun _ _ _ h => h) (Or.inl ⟨by rfl, ?y10⟩) (by assumption) ?r10
      case y10 =>
        intro w hSw
        (try dsimp only at hSw)
        go_simp
        (try with_reducible rfl)
      (try simp only [Act.put, List.setIfInBounds_toArray, List.set_cons_zero, List.set_cons_succ, List.getElem_toArray, List.getElem_cons_zero, List.getElem_cons_succ])
      refine wpAnyH_ready (rs := [10]) (by kernel_rfl) (by simp) ?_
      refine AllReadyH.cons rfl (fun K hK => ?_) AllReadyH.nil
      go_simp
      refine hK.out _ _ ?_ (fun hHeld11 => ?_)
      · (((try dsimp only); (refine ⟨Blk.cell ?_, Blk.cell ?_⟩ <;> (repeat' (first | (with_reducible first | assumption | refine Blk.drew ?_ | refine Blk.drewN ?_ _ | apply Blk.set | (refine Blk.new ?_; focus (first | rfl | (simp; done))) | refine Blk.alloc ?_ _ | refine Blk.other ?_ ?_ _) | exact eqL rfl | (refine neB ?_; omega))))))
      clear hK K hHeld9
      (try simp only [Act.put, List.setIfInBounds_toArray, List.set_cons_zero, List.set_cons_succ, List.getElem_toArray, List.getElem_cons_zero, List.getElem_cons_succ])
      clear hHeld11
      refine wpAnyH_done (by kernel_rfl) ?_ _
      refine fresh_world (fun W' => Blk W' (w.heap.size) [.int .i64 m0a, .int .i64 m0b, .int .i64 m0c, .int .i64 m1a, .int .i64 m1b, .int .i64 m1c, .int .i64 m2a, .int .i64 m2b, .int .i64 m2c, .int .i64 m3a, .int .i64 m3b, .int .i64 m3c, .int .i64 m4a, .int .i64 m4b, .int .i64 m4c, .int .i64 m5a, .int .i64 m5b, .int .i64 m5c, .int .i64 m6a, .int .i64 m6b, .int .i64 m6c, .int .i64 m7a, .int .i64 m7b, .int .i64 m7c, .int .i64 m8a, .int .i64 m8b, .int .i64 m8c, .int .i64 m9a, .int .i64 m9b, .int .i64 m9c, .int .i64 m10a, .int .i64 m10b, .int .i64 m10c, .int .i64 m11a, .int .i64 m11b, .int .i64 m11c, .int .i64 m12a, .int .i64 m12b, .int .i64 m12c, .int .i64 m13a, .int .i64 m13b, .int .i64 m13c, .int .i64 m14a, .int .i64 m14b, .int .i64 m14c, .int .i64 m15a, .int .i64 m15b, .int .i64 m15c] ∧ Blk W' (w.heap.size + 1) [.int .i64 a1, .int .i64 a2, .int .i64 a3, .int .i64 b1, .int .i64 b2, .int .i64 b3, .int .i64 c1, .int .i64 c2, .int .i64 c3, .int .i64 d1, .int .i64 d2, .int .i64 d3] ∧ Blk W' (w.heap.size + 1 + 1) [.int .i64 0, .int .i64 0, .int .i64 0, .int .i64 0, .int .i64 0, .int .i64 0, .int .i64 0, .int .i64 0, .int .i64 0, .int .i64 0, .int .i64 0, .int .i64 0] ∧ Blk W' (W2.heap.size) [.bool f0] ∧ Blk W' (W2.heap.size + 1) [.int .i64 ra1, .int .i64 ra2, .int .i64 ra3, .int .i64 0, .int .i64 0, .int .i64 0, .int .i64 0, .int .i64 0, .int .i64 0, .int .i64 0, .int .i64 0, .int .i64 0] ∧ Acc w W') ?_ ?_
      · and_intros
        all_goals
          first
            | ((repeat' (first | (with_reducible first | assumption | refine Blk.drew ?_ | refine Blk.drewN ?_ _ | apply Blk.set | (refine Blk.new ?_; focus (first | rfl | (simp; done))) | refine Blk.alloc ?_ _ | refine Blk.other ?_ ?_ _) | exact eqL rfl | (refine neB ?_; omega))); done)
            | ((show Acc w _); (repeat' (first | (with_reducible first | assumption | exact Acc.refl _ | refine Acc.drew ?_ | refine Acc.drewN ?_ _ | refine Acc.alloc ?_ _ | refine Acc.setCell ?_ ?_ _) | (refine leB ?_; omega))); done)
      try clear Ba
      try clear ca
      try clear fa
      try clear la_W9
      try clear Bb
      try clear cb
      try clear fb
      try clear lb_W9
      try clear Br
      try clear cr
      try clear fr
      try clear lr_W9
      try clear Bfl
      try clear cfl
      try clear ffl
      try clear lfl_W9
      try clear Bo
      try clear co
      try clear fo
      try clear lo_W9
      try clear kaW9
      rintro wf3 ⟨Ba, Bb, Br, Bfl, Bo, kawf3⟩
      as_aux_lemma =>
        have ca := Ba.cell
        have fa := Ba.free
        have la_wf3 := Ba.lt
        have cb := Bb.cell
        have fb := Bb.free
        have lb_wf3 := Bb.lt
        have cr := Br.cell
        have fr := Br.free
        have lr_wf3 := Br.lt
        have cfl := Bfl.cell
        have ffl := Bfl.free
        have lfl_wf3 := Bfl.lt
        have co := Bo.cell
        have fo := Bo.free
        have lo_wf3 := Bo.lt
        cases f0 with
        | false =>
          obtain rfl : o = none := HE.out.symm.trans ((appTb_at V0.out (show rl4 ((a1, a2, a3), (b1, b2, b3), (c1, c2, c3), (d1, d2, d3)) = true from V1.out)).trans (show quadO (rowT ((m0a, m0b, m0c), (m1a, m1b, m1c), (m2a, m2b, m2c), (m3a, m3b, m3c)) ((a1, a2, a3), (b1, b2, b3), (c1, c2, c3), (d1, d2, d3))) (rowT ((m4a, m4b, m4c), (m5a, m5b, m5c), (m6a, m6b, m6c), (m7a, m7b, m7c)) ((a1, a2, a3), (b1, b2, b3), (c1, c2, c3), (d1, d2, d3))) (rowT ((m8a, m8b, m8c), (m9a, m9b, m9c), (m10a, m10b, m10c), (m11a, m11b, m11c)) ((a1, a2, a3), (b1, b2, b3), (c1, c2, c3), (d1, d2, d3))) (rowT ((m12a, m12b, m12c), (m13a, m13b, m13c), (m14a, m14b, m14c), (m15a, m15b, m15c)) ((a1, a2, a3), (b1, b2, b3), (c1, c2, c3), (d1, d2, d3))) = none by rw [show rowT ((m0a, m0b, m0c), (m1a, m1b, m1c), (m2a, m2b, m2c), (m3a, m3b, m3c)) ((a1, a2, a3), (b1, b2, b3), (c1, c2, c3), (d1, d2, d3)) = none from (rowT_at C0.out D0.out).trans (if_neg (by decide))]; exact quad_n1 _ _ _))
          go_wp2_with fail
          rw [rounds_succ]
          go_wp2_with (refine wpList_store_mid rfl 33 (.tmp 4) (.tmp 43) rfl (w.heap.size + 1 + 1) 0 #[.int .i64 0, .int .i64 0, .int .i64 0, .int .i64 0, .int .i64 0, .int .i64 0, .int .i64 0, .int .i64 0, .int .i64 0, .int .i64 0, .int .i64 0, .int .i64 0] rfl rfl ?ht ?hi ?ho ?_)
          case ht =>
            refine there_of (vs := [.int .i64 0, .int .i64 0, .int .i64 0, .int .i64 0, .int .i64 0, .int .i64 0, .int .i64 0, .int .i64 0, .int .i64 0, .int .i64 0, .int .i64 0, .int .i64 0]) ?_ rfl
            (repeat' (first | (with_reducible first | assumption | refine Blk.drew ?_ | refine Blk.drewN ?_ _ | apply Blk.set | (refine Blk.new ?_; focus (first | rfl | (simp; done))) | refine Blk.alloc ?_ _ | refine Blk.other ?_ ?_ _) | exact eqL rfl | (refine neB ?_; omega)))
          case hi => first | exact HS.out | simpa using HS.out
          case ho => first | exact oneInts [0, 0, 0, 0, 0, 0, 0, 0, 0, 0, 0, 0] | (and_intros <;> rfl)
          refine fresh_world (fun W' => Blk W' (w.heap.size + 1 + 1) [.int .i64 0, .int .i64 0, .int .i64 0, .int .i64 0, .int .i64 0, .int .i64 0, .int .i64 0, .int .i64 0, .int .i64 0, .int .i64 0, .int .i64 0, .int .i64 0] ∧ Acc w W') ?_ ?_
          · and_intros
            · refine Blk.setCells (vs := [.int .i64 0, .int .i64 0, .int .i64 0, .int .i64 0, .int .i64 0, .int .i64 0, .int .i64 0, .int .i64 0, .int .i64 0, .int .i64 0, .int .i64 0, .int .i64 0]) ?_ rfl
              (repeat' (first | (with_reducible first | assumption | refine Blk.drew ?_ | refine Blk.drewN ?_ _ | apply Blk.set | (refine Blk.new ?_; focus (first | rfl | (simp; done))) | refine Blk.alloc ?_ _ | refine Blk.other ?_ ?_ _) | exact eqL rfl | (refine neB ?_; omega)))
            · refine Acc.setCells (leB (by omega)) _ _ _ ?_
              (repeat' (first | (with_reducible first | assumption | exact Acc.refl _ | refine Acc.drew ?_ | refine Acc.drewN ?_ _ | refine Acc.alloc ?_ _ | refine Acc.setCell ?_ ?_ _) | (refine leB ?_; omega)))
          rintro we ⟨Bz, kae⟩
          have cz := Bz.cell
          refine bodyPost_ret (v := .tuple #[.agg #[.int .i64 0, .int .i64 0, .int .i64 0, .int .i64 0, .int .i64 0, .int .i64 0, .int .i64 0, .int .i64 0, .int .i64 0, .int .i64 0, .int .i64 0, .int .i64 0], .bool false]) (by simp [results, Tryd.results6, go_sem, *]) rfl ⟨fun _ _ _ _ _ _ _ _ _ _ _ _ h => (by cases h), fun _ => rfl, ?_⟩
          show Acc w _
          (repeat' (first | (with_reducible first | assumption | exact Acc.refl _ | refine Acc.drew ?_ | refine Acc.drewN ?_ _ | refine Acc.alloc ?_ _ | refine Acc.setCell ?_ ?_ _) | (refine leB ?_; omega)))
        | true =>
          go_wp2_with fail
          rw [rounds_succ]
          go_wp2_with fail
          refine wp_region_held_drew (S := fun w' => (∀ k, w'.cell? ⟨w.heap.size, k, none⟩ = [.int .i64 m0a, .int .i64 m0b, .int .i64 m0c, .int .i64 m1a, .int .i64 m1b, .int .i64 m1c, .int .i64 m2a, .int .i64 m2b, .int .i64 m2c, .int .i64 m3a, .int .i64 m3b, .int .i64 m3c, .int .i64 m4a, .int .i64 m4b, .int .i64 m4c, .int .i64 m5a, .int .i64 m5b, .int .i64 m5c, .int .i64 m6a, .int .i64 m6b, .int .i64 m6c, .int .i64 m7a, .int .i64 m7b, .int .i64 m7c, .int .i64 m8a, .int .i64 m8b, .int .i64 m8c, .int .i64 m9a, .int .i64 m9b, .int .i64 m9c, .int .i64 m10a, .int .i64 m10b, .int .i64 m10c, .int .i64 m11a, .int .i64 m11b, .int .i64 m11c, .int .i64 m12a, .int .i64 m12b, .int .i64 m12c, .int .i64 m13a, .int .i64 m13b, .int .i64 m13c, .int .i64 m14a, .int .i64 m14b, .int .i64 m14c, .int .i64 m15a, .int .i64 m15b, .int .i64 m15c][k]?) ∧ (∀ k, w'.cell? ⟨w.heap.size + 1, k, none⟩ = [.int .i64 a1, .int .i64 a2, .int .i64 a3, .int .i64 b1, .int .i64 b2, .int .i64 b3, .int .i64 c1, .int .i64 c2, .int .i64 c3, .int .i64 d1, .int .i64 d2, .int .i64 d3][k]?)) (by kernel_rfl) ?_ (fun hHeld0 => ?_)
          · (((try dsimp only); (refine ⟨Blk.cell ?_, Blk.cell ?_⟩ <;> (repeat' (first | (with_reducible first | assumption | refine Blk.drew ?_ | refine Blk.drewN ?_ _ | apply Blk.set | (refine Blk.new ?_; focus (first | rfl | (simp; done))) | refine Blk.alloc ?_ _ | refine Blk.other ?_ ?_ _) | exact eqL rfl | (refine neB ?_; omega))))))
          refine wpAnyH_take (i := 0) (v := ?v12) rfl (by kernel_rfl) (by kernel_rfl) (by kernel_rfl) (fun _ _ _ h => h) (Or.inl ⟨by rfl, ?y12⟩) (by assumption) ?r12
          case y12 =>
            intro w hSw
            (try dsimp only at hSw)
            go_simp
            (try with_reducible rfl)
          (try simp only [Act.put, List.setIfInBounds_toArray, List.set_cons_zero, List.set_cons_succ, List.getElem_toArray, List.getElem_cons_zero, List.getElem_cons_succ])
          refine wpAnyH_take (i := 1) (v := ?v13) rfl (by kernel_rfl) (by kernel_rfl) (by kernel_rfl) (fun _ _ _ h => h) (Or.inl ⟨by rfl, ?y13⟩) (by assumption) ?r13
          case y13 =>
            intro w hSw
            (try dsimp only at hSw)
            go_simp
            (try with_reducible rfl)
          (try simp only [Act.put, List.setIfInBounds_toArray, List.set_cons_zero, List.set_cons_succ, List.getElem_toArray, List.getElem_cons_zero, List.getElem_cons_succ])
          refine wpAnyH_take (i := 2) (v := .agg (#[.int .i64 m0a, .int .i64 m0b, .int .i64 m0c, .int .i64 m1a, .int .i64 m1b, .int .i64 m1c, .int .i64 m2a, .int .i64 m2b, .int .i64 m2c, .int .i64 m3a, .int .i64 m3b, .int .i64 m3c, .int .i64 m4a, .int .i64 m4b, .int .i64 m4c, .int .i64 m5a, .int .i64 m5b, .int .i64 m5c, .int .i64 m6a, .int .i64 m6b, .int .i64 m6c, .int .i64 m7a, .int .i64 m7b, .int .i64 m7c, .int .i64 m8a, .int .i64 m8b, .int .i64 m8c, .int .i64 m9a, .int .i64 m9b, .int .i64 m9c, .int .i64 m10a, .int .i64 m10b, .int .i64 m10c, .int .i64 m11a, .int .i64 m11b, .int .i64 m11c, .int .i64 m12a, .int .i64 m12b, .int .i64 m12c, .int .i64 m13a, .int .i64 m13b, .int .i64 m13c, .int .i64 m14a, .int .i64 m14b, .int .i64 m14c, .int .i64 m15a, .int .i64 m15b, .int .i64 m15c])) rfl (by kernel_rfl) (by kernel_rfl) (by kernel_rfl) (fun _ _ _ h => h) (yieldsIf_load_mid (by rfl) 38 _ rfl (w.heap.size) 0 rfl [.int .i64 m0a, .int .i64 m0b, .int .i64 m0c, .int .i64 m1a, .int .i64 m1b, .int .i64 m1c, .int .i64 m2a, .int .i64 m2b, .int .i64 m2c, .int .i64 m3a, .int .i64 m3b, .int .i64 m3c, .int .i64 m4a, .int .i64 m4b, .int .i64 m4c, .int .i64 m5a, .int .i64 m5b, .int .i64 m5c, .int .i64 m6a, .int .i64 m6b, .int .i64 m6c, .int .i64 m7a, .int .i64 m7b, .int .i64 m7c, .int .i64 m8a, .int .i64 m8b, .int .i64 m8c, .int .i64 m9a, .int .i64 m9b, .int .i64 m9c, .int .i64 m10a, .int .i64 m10b, .int .i64 m10c, .int .i64 m11a, .int .i64 m11b, .int .i64 m11c, .int .i64 m12a, .int .i64 m12b, .int .i64 m12c, .int .i64 m13a, .int .i64 m13b, .int .i64 m13c, .int .i64 m14a, .int .i64 m14b, .int .i64 m14c, .int .i64 m15a, .int .i64 m15b, .int .i64 m15c] _ ?y14 Tryd.underlying38 rfl HI.out) (by assumption) ?r14
          case y14 =>
            intro w hSw
            exact range_of hSw.1
          (try simp only [Act.put, List.setIfInBounds_toArray, List.set_cons_zero, List.set_cons_succ, List.getElem_toArray, List.getElem_cons_zero, List.getElem_cons_succ])
          refine wpAnyH_take (i := 3) (v := ?v15) rfl (by kernel_rfl) (by kernel_rfl) (by kernel_rfl) (fun _ _ _ h => h) (Or.inl ⟨by rfl, ?y15⟩) (by assumption) ?r15
          case y15 =>
            intro w hSw
            (try dsimp only at hSw)
            go_simp
            (try with_reducible rfl)
          (try simp only [Act.put, List.setIfInBounds_toArray, List.set_cons_zero, List.set_cons_succ, List.getElem_toArray, List.getElem_cons_zero, List.getElem_cons_succ])
          refine wpAnyH_take (i := 5) (v := ?v16) rfl (by kernel_rfl) (by kernel_rfl) (by kernel_rfl) (fun _ _ _ h => h) (Or.inl ⟨by rfl, ?y16⟩) (by assumption) ?r16
          case y16 =>
            intro w hSw
            (try dsimp only at hSw)
            go_simp
            (try with_reducible rfl)
          (try simp only [Act.put, List.setIfInBounds_toArray, List.set_cons_zero, List.set_cons_succ, List.getElem_toArray, List.getElem_cons_zero, List.getElem_cons_succ])
          refine wpAnyH_take (i := 6) (v := ?v17) rfl (by kernel_rfl) (by kernel_rfl) (by kernel_rfl) (fun _ _ _ h => h) (Or.inl ⟨by rfl, ?y17⟩) (by assumption) ?r17
          case y17 =>
            intro w hSw
            (try dsimp only at hSw)
            go_simp
            (try with_reducible rfl)
          (try simp only [Act.put, List.setIfInBounds_toArray, List.set_cons_zero, List.set_cons_succ, List.getElem_toArray, List.getElem_cons_zero, List.getElem_cons_succ])
          refine wpAnyH_take (i := 8) (v := ?v18) rfl (by kernel_rfl) (by kernel_rfl) (by kernel_rfl) (fun _ _ _ h => h) (Or.inl ⟨by rfl, ?y18⟩) (by assumption) ?r18
          case y18 =>
            intro w hSw
            (try dsimp only at hSw)
            go_simp
            (try with_reducible rfl)
          (try simp only [Act.put, List.setIfInBounds_toArray, List.set_cons_zero, List.set_cons_succ, List.getElem_toArray, List.getElem_cons_zero, List.getElem_cons_succ])
          refine wpAnyH_ready (rs := [4]) (by kernel_rfl) (by simp) ?_
          refine AllReadyH.cons rfl (fun K hK => ?_) AllReadyH.nil
          go_simp
          go_at_call 19; refine (specTOf_1 m0a m0b m0c m1a m1b m1c m2a m2b m2c m3a m3b m3c m4a m4b m4c m5a m5b m5c m6a m6b m6c m7a m7b m7c m8a m8b m8c m9a m9b m9c m10a m10b m10c m11a m11b m11c m12a m12b m12c m13a m13b m13c m14a m14b m14c m15a m15b m15c _).mono ?_; rintro e W8 ⟨rfl, hb⟩; have Ba : Blk W8 (w.heap.size) [.int .i64 m0a, .int .i64 m0b, .int .i64 m0c, .int .i64 m1a, .int .i64 m1b, .int .i64 m1c, .int .i64 m2a, .int .i64 m2b, .int .i64 m2c, .int .i64 m3a, .int .i64 m3b, .int .i64 m3c, .int .i64 m4a, .int .i64 m4b, .int .i64 m4c, .int .i64 m5a, .int .i64 m5b, .int .i64 m5c, .int .i64 m6a, .int .i64 m6b, .int .i64 m6c, .int .i64 m7a, .int .i64 m7b, .int .i64 m7c, .int .i64 m8a, .int .i64 m8b, .int .i64 m8c, .int .i64 m9a, .int .i64 m9b, .int .i64 m9c, .int .i64 m10a, .int .i64 m10b, .int .i64 m10c, .int .i64 m11a, .int .i64 m11b, .int .i64 m11c, .int .i64 m12a, .int .i64 m12b, .int .i64 m12c, .int .i64 m13a, .int .i64 m13b, .int .i64 m13c, .int .i64 m14a, .int .i64 m14b, .int .i64 m14c, .int .i64 m15a, .int .i64 m15b, .int .i64 m15c] := Blk.keep hb (by repeat' (first | (with_reducible first | assumption | refine Blk.drew ?_ | refine Blk.drewN ?_ _ | apply Blk.set | (refine Blk.new ?_; focus (first | rfl | (simp; done))) | refine Blk.alloc ?_ _ | refine Blk.other ?_ ?_ _) | exact eqL rfl | (refine neB ?_; omega))); have Bb : Blk W8 (w.heap.size + 1) [.int .i64 a1, .int .i64 a2, .int .i64 a3, .int .i64 b1, .int .i64 b2, .int .i64 b3, .int .i64 c1, .int .i64 c2, .int .i64 c3, .int .i64 d1, .int .i64 d2, .int .i64 d3] := Blk.keep hb (by repeat' (first | (with_reducible first | assumption | refine Blk.drew ?_ | refine Blk.drewN ?_ _ | apply Blk.set | (refine Blk.new ?_; focus (first | rfl | (simp; done))) | refine Blk.alloc ?_ _ | refine Blk.other ?_ ?_ _) | exact eqL rfl | (refine neB ?_; omega))); have Br : Blk W8 (w.heap.size + 1 + 1) [.int .i64 0, .int .i64 0, .int .i64 0, .int .i64 0, .int .i64 0, .int .i64 0, .int .i64 0, .int .i64 0, .int .i64 0, .int .i64 0, .int .i64 0, .int .i64 0] := Blk.keep hb (by repeat' (first | (with_reducible first | assumption | refine Blk.drew ?_ | refine Blk.drewN ?_ _ | apply Blk.set | (refine Blk.new ?_; focus (first | rfl | (simp; done))) | refine Blk.alloc ?_ _ | refine Blk.other ?_ ?_ _) | exact eqL rfl | (refine neB ?_; omega))); have Bfl : Blk W8 (W2.heap.size) [.bool true] := Blk.keep hb (by repeat' (first | (with_reducible first | assumption | refine Blk.drew ?_ | refine Blk.drewN ?_ _ | apply Blk.set | (refine Blk.new ?_; focus (first | rfl | (simp; done))) | refine Blk.alloc ?_ _ | refine Blk.other ?_ ?_ _) | exact eqL rfl | (refine neB ?_; omega))); have Bo : Blk W8 (W2.heap.size + 1) [.int .i64 ra1, .int .i64 ra2, .int .i64 ra3, .int .i64 0, .int .i64 0, .int .i64 0, .int .i64 0, .int .i64 0, .int .i64 0, .int .i64 0, .int .i64 0, .int .i64 0] := Blk.keep hb (by repeat' (first | (with_reducible first | assumption | refine Blk.drew ?_ | refine Blk.drewN ?_ _ | apply Blk.set | (refine Blk.new ?_; focus (first | rfl | (simp; done))) | refine Blk.alloc ?_ _ | refine Blk.other ?_ ?_ _) | exact eqL rfl | (refine neB ?_; omega))); have ca := Ba.cell; have fa := Ba.free; have la_W8 := Ba.lt; have cb := Bb.cell; have fb := Bb.free; have lb_W8 := Bb.lt; have cr := Br.cell; have fr := Br.free; have lr_W8 := Br.lt; have cfl := Bfl.cell; have ffl := Bfl.free; have lfl_W8 := Bfl.lt; have co := Bo.cell; have fo := Bo.free; have lo_W8 := Bo.lt; have kaW8 : Acc w W8 := (by refine Acc.call ?_ hb; (repeat' (first | (with_reducible first | assumption | exact Acc.refl _ | refine Acc.drew ?_ | refine Acc.drewN ?_ _ | refine Acc.alloc ?_ _ | refine Acc.setCell ?_ ?_ _) | (refine leB ?_; omega)))); clear hb
          refine hK.out _ _ ?_ (fun hHeld19 => ?_)
          · (((try dsimp only); (refine ⟨Blk.cell ?_, Blk.cell ?_⟩ <;> (repeat' (first | (with_reducible first | assumption | refine Blk.drew ?_ | refine Blk.drewN ?_ _ | apply Blk.set | (refine Blk.new ?_; focus (first | rfl | (simp; done))) | refine Blk.alloc ?_ _ | refine Blk.other ?_ ?_ _) | exact eqL rfl | (refine neB ?_; omega))))))
          clear hK K hHeld0
          (try simp only [Act.put, List.setIfInBounds_toArray, List.set_cons_zero, List.set_cons_succ, List.getElem_toArray, List.getElem_cons_zero, List.getElem_cons_succ])
          refine wpAnyH_ready (rs := [7]) (by kernel_rfl) (by simp) ?_
          refine AllReadyH.cons rfl (fun K hK => ?_) AllReadyH.nil
          go_simp
          go_at_call 18; refine (specTRow_at C1.out D1.out (show (true && f1) = f1 from rfl) _ _ (by repeat' (first | (with_reducible first | assumption | refine Blk.drew ?_ | refine Blk.drewN ?_ _ | apply Blk.set | (refine Blk.new ?_; focus (first | rfl | (simp; done))) | refine Blk.alloc ?_ _ | refine Blk.other ?_ ?_ _) | exact eqL rfl | (refine neB ?_; omega)))).mono ?_; rintro e W9 ⟨rfl, Bfl, ho⟩; have Ba : Blk W9 (w.heap.size) [.int .i64 m0a, .int .i64 m0b, .int .i64 m0c, .int .i64 m1a, .int .i64 m1b, .int .i64 m1c, .int .i64 m2a, .int .i64 m2b, .int .i64 m2c, .int .i64 m3a, .int .i64 m3b, .int .i64 m3c, .int .i64 m4a, .int .i64 m4b, .int .i64 m4c, .int .i64 m5a, .int .i64 m5b, .int .i64 m5c, .int .i64 m6a, .int .i64 m6b, .int .i64 m6c, .int .i64 m7a, .int .i64 m7b, .int .i64 m7c, .int .i64 m8a, .int .i64 m8b, .int .i64 m8c, .int .i64 m9a, .int .i64 m9b, .int .i64 m9c, .int .i64 m10a, .int .i64 m10b, .int .i64 m10c, .int .i64 m11a, .int .i64 m11b, .int .i64 m11c, .int .i64 m12a, .int .i64 m12b, .int .i64 m12c, .int .i64 m13a, .int .i64 m13b, .int .i64 m13c, .int .i64 m14a, .int .i64 m14b, .int .i64 m14c, .int .i64 m15a, .int .i64 m15b, .int .i64 m15c] := Blk.keepo ho (neB (by omega)) (by repeat' (first | (with_reducible first | assumption | refine Blk.drew ?_ | refine Blk.drewN ?_ _ | apply Blk.set | (refine Blk.new ?_; focus (first | rfl | (simp; done))) | refine Blk.alloc ?_ _ | refine Blk.other ?_ ?_ _) | exact eqL rfl | (refine neB ?_; omega))); have Bb : Blk W9 (w.heap.size + 1) [.int .i64 a1, .int .i64 a2, .int .i64 a3, .int .i64 b1, .int .i64 b2, .int .i64 b3, .int .i64 c1, .int .i64 c2, .int .i64 c3, .int .i64 d1, .int .i64 d2, .int .i64 d3] := Blk.keepo ho (neB (by omega)) (by repeat' (first | (with_reducible first | assumption | refine Blk.drew ?_ | refine Blk.drewN ?_ _ | apply Blk.set | (refine Blk.new ?_; focus (first | rfl | (simp; done))) | refine Blk.alloc ?_ _ | refine Blk.other ?_ ?_ _) | exact eqL rfl | (refine neB ?_; omega))); have Br : Blk W9 (w.heap.size + 1 + 1) [.int .i64 0, .int .i64 0, .int .i64 0, .int .i64 0, .int .i64 0, .int .i64 0, .int .i64 0, .int .i64 0, .int .i64 0, .int .i64 0, .int .i64 0, .int .i64 0] := Blk.keepo ho (neB (by omega)) (by repeat' (first | (with_reducible first | assumption | refine Blk.drew ?_ | refine Blk.drewN ?_ _ | apply Blk.set | (refine Blk.new ?_; focus (first | rfl | (simp; done))) | refine Blk.alloc ?_ _ | refine Blk.other ?_ ?_ _) | exact eqL rfl | (refine neB ?_; omega))); have Bo : Blk W9 (W2.heap.size + 1) [.int .i64 ra1, .int .i64 ra2, .int .i64 ra3, .int .i64 0, .int .i64 0, .int .i64 0, .int .i64 0, .int .i64 0, .int .i64 0, .int .i64 0, .int .i64 0, .int .i64 0] := Blk.keepo ho (neB (by omega)) (by repeat' (first | (with_reducible first | assumption | refine Blk.drew ?_ | refine Blk.drewN ?_ _ | apply Blk.set | (refine Blk.new ?_; focus (first | rfl | (simp; done))) | refine Blk.alloc ?_ _ | refine Blk.other ?_ ?_ _) | exact eqL rfl | (refine neB ?_; omega))); have ca := Ba.cell; have fa := Ba.free; have la_W9 := Ba.lt; have cb := Bb.cell; have fb := Bb.free; have lb_W9 := Bb.lt; have cr := Br.cell; have fr := Br.free; have lr_W9 := Br.lt; have cfl := Bfl.cell; have ffl := Bfl.free; have lfl_W9 := Bfl.lt; have co := Bo.cell; have fo := Bo.free; have lo_W9 := Bo.lt; have kaW9 : Acc w W9 := (by refine Acc.only ?_ (leB (by omega)) ho; (repeat' (first | (with_reducible first | assumption | exact Acc.refl _ | refine Acc.drew ?_ | refine Acc.drewN ?_ _ | refine Acc.alloc ?_ _ | refine Acc.setCell ?_ ?_ _) | (refine leB ?_; omega)))); have lsW9 := ho.size; clear ho
          refine hK.out _ _ ?_ (fun hHeld20 => ?_)
          · (((try dsimp only); (refine ⟨Blk.cell ?_, Blk.cell ?_⟩ <;> (repeat' (first | (with_reducible first | assumption | refine Blk.drew ?_ | refine Blk.drewN ?_ _ | apply Blk.set | (refine Blk.new ?_; focus (first | rfl | (simp; done))) | refine Blk.alloc ?_ _ | refine Blk.other ?_ ?_ _) | exact eqL rfl | (refine neB ?_; omega))))))
          clear hK K hHeld19
          (try simp only [Act.put, List.setIfInBounds_toArray, List.set_cons_zero, List.set_cons_succ, List.getElem_toArray, List.getElem_cons_zero, List.getElem_cons_succ])
          refine wpAnyH_take (i := 9) (v := ?v21) rfl (by kernel_rfl) (by kernel_rfl) (by kernel_rfl) (fun _ _ _ h => h) (Or.inl ⟨by rfl, ?y21⟩) (by assumption) ?r21
          case y21 =>
            intro w hSw
            (try dsimp only at hSw)
            go_simp
            (try with_reducible rfl)
          (try simp only [Act.put, List.setIfInBounds_toArray, List.set_cons_zero, List.set_cons_succ, List.getElem_toArray, List.getElem_cons_zero, List.getElem_cons_succ])
          refine wpAnyH_ready (rs := [10]) (by kernel_rfl) (by simp) ?_
          refine AllReadyH.cons rfl (fun K hK => ?_) AllReadyH.nil
          go_simp
          refine hK.out _ _ ?_ (fun hHeld22 => ?_)
          · (((try dsimp only); (refine ⟨Blk.cell ?_, Blk.cell ?_⟩ <;> (repeat' (first | (with_reducible first | assumption | refine Blk.drew ?_ | refine Blk.drewN ?_ _ | apply Blk.set | (refine Blk.new ?_; focus (first | rfl | (simp; done))) | refine Blk.alloc ?_ _ | refine Blk.other ?_ ?_ _) | exact eqL rfl | (refine neB ?_; omega))))))
          clear hK K hHeld20
          (try simp only [Act.put, List.setIfInBounds_toArray, List.set_cons_zero, List.set_cons_succ, List.getElem_toArray, List.getElem_cons_zero, List.getElem_cons_succ])
          clear hHeld22
          refine wpAnyH_done (by kernel_rfl) ?_ _
          refine fresh_world (fun W' => Blk W' (w.heap.size) [.int .i64 m0a, .int .i64 m0b, .int .i64 m0c, .int .i64 m1a, .int .i64 m1b, .int .i64 m1c, .int .i64 m2a, .int .i64 m2b, .int .i64 m2c, .int .i64 m3a, .int .i64 m3b, .int .i64 m3c, .int .i64 m4a, .int .i64 m4b, .int .i64 m4c, .int .i64 m5a, .int .i64 m5b, .int .i64 m5c, .int .i64 m6a, .int .i64 m6b, .int .i64 m6c, .int .i64 m7a, .int .i64 m7b, .int .i64 m7c, .int .i64 m8a, .int .i64 m8b, .int .i64 m8c, .int .i64 m9a, .int .i64 m9b, .int .i64 m9c, .int .i64 m10a, .int .i64 m10b, .int .i64 m10c, .int .i64 m11a, .int .i64 m11b, .int .i64 m11c, .int .i64 m12a, .int .i64 m12b, .int .i64 m12c, .int .i64 m13a, .int .i64 m13b, .int .i64 m13c, .int .i64 m14a, .int .i64 m14b, .int .i64 m14c, .int .i64 m15a, .int .i64 m15b, .int .i64 m15c] ∧ Blk W' (w.heap.size + 1) [.int .i64 a1, .int .i64 a2, .int .i64 a3, .int .i64 b1, .int .i64 b2, .int .i64 b3, .int .i64 c1, .int .i64 c2, .int .i64 c3, .int .i64 d1, .int .i64 d2, .int .i64 d3] ∧ Blk W' (w.heap.size + 1 + 1) [.int .i64 0, .int .i64 0, .int .i64 0, .int .i64 0, .int .i64 0, .int .i64 0, .int .i64 0, .int .i64 0, .int .i64 0, .int .i64 0, .int .i64 0, .int .i64 0] ∧ Blk W' (W2.heap.size) [.bool f1] ∧ Blk W' (W2.heap.size + 1) [.int .i64 ra1, .int .i64 ra2, .int .i64 ra3, .int .i64 rb1, .int .i64 rb2, .int .i64 rb3, .int .i64 0, .int .i64 0, .int .i64 0, .int .i64 0, .int .i64 0, .int .i64 0] ∧ Acc w W') ?_ ?_
          · and_intros
            all_goals
              first
                | ((repeat' (first | (with_reducible first | assumption | refine Blk.drew ?_ | refine Blk.drewN ?_ _ | apply Blk.set | (refine Blk.new ?_; focus (first | rfl | (simp; done))) | refine Blk.alloc ?_ _ | refine Blk.other ?_ ?_ _) | exact eqL rfl | (refine neB ?_; omega))); done)
                | ((show Acc w _); (repeat' (first | (with_reducible first | assumption | exact Acc.refl _ | refine Acc.drew ?_ | refine Acc.drewN ?_ _ | refine Acc.alloc ?_ _ | refine Acc.setCell ?_ ?_ _) | (refine leB ?_; omega))); done)
          try clear Ba
          try clear ca
          try clear fa
          try clear la_W9
          try clear Bb
          try clear cb
          try clear fb
          try clear lb_W9
          try clear Br
          try clear cr
          try clear fr
          try clear lr_W9
          try clear Bfl
          try clear cfl
          try clear ffl
          try clear lfl_W9
          try clear Bo
          try clear co
          try clear fo
          try clear lo_W9
          try clear kaW9
          rintro wf4 ⟨Ba, Bb, Br, Bfl, Bo, kawf4⟩
          as_aux_lemma =>
            have ca := Ba.cell
            have fa := Ba.free
            have la_wf4 := Ba.lt
            have cb := Bb.cell
            have fb := Bb.free
            have lb_wf4 := Bb.lt
            have cr := Br.cell
            have fr := Br.free
            have lr_wf4 := Br.lt
            have cfl := Bfl.cell
            have ffl := Bfl.free
            have lfl_wf4 := Bfl.lt
            have co := Bo.cell
            have fo := Bo.free
            have lo_wf4 := Bo.lt
            cases f1 with
            | false =>
              obtain rfl : o = none := HE.out.symm.trans ((appTb_at V0.out (show rl4 ((a1, a2, a3), (b1, b2, b3), (c1, c2, c3), (d1, d2, d3)) = true from V1.out)).trans (show quadO (rowT ((m0a, m0b, m0c), (m1a, m1b, m1c), (m2a, m2b, m2c), (m3a, m3b, m3c)) ((a1, a2, a3), (b1, b2, b3), (c1, c2, c3), (d1, d2, d3))) (rowT ((m4a, m4b, m4c), (m5a, m5b, m5c), (m6a, m6b, m6c), (m7a, m7b, m7c)) ((a1, a2, a3), (b1, b2, b3), (c1, c2, c3), (d1, d2, d3))) (rowT ((m8a, m8b, m8c), (m9a, m9b, m9c), (m10a, m10b, m10c), (m11a, m11b, m11c)) ((a1, a2, a3), (b1, b2, b3), (c1, c2, c3), (d1, d2, d3))) (rowT ((m12a, m12b, m12c), (m13a, m13b, m13c), (m14a, m14b, m14c), (m15a, m15b, m15c)) ((a1, a2, a3), (b1, b2, b3), (c1, c2, c3), (d1, d2, d3))) = none by rw [show rowT ((m4a, m4b, m4c), (m5a, m5b, m5c), (m6a, m6b, m6c), (m7a, m7b, m7c)) ((a1, a2, a3), (b1, b2, b3), (c1, c2, c3), (d1, d2, d3)) = none from (rowT_at C1.out D1.out).trans (if_neg (by decide))]; exact quad_n2 _ _ _))
              go_wp2_with fail
              rw [rounds_succ]
              go_wp2_with (refine wpList_store_mid rfl 33 (.tmp 4) (.tmp 43) rfl (w.heap.size + 1 + 1) 0 #[.int .i64 0, .int .i64 0, .int .i64 0, .int .i64 0, .int .i64 0, .int .i64 0, .int .i64 0, .int .i64 0, .int .i64 0, .int .i64 0, .int .i64 0, .int .i64 0] rfl rfl ?ht ?hi ?ho ?_)
              case ht =>
                refine there_of (vs := [.int .i64 0, .int .i64 0, .int .i64 0, .int .i64 0, .int .i64 0, .int .i64 0, .int .i64 0, .int .i64 0, .int .i64 0, .int .i64 0, .int .i64 0, .int .i64 0]) ?_ rfl
                (repeat' (first | (with_reducible first | assumption | refine Blk.drew ?_ | refine Blk.drewN ?_ _ | apply Blk.set | (refine Blk.new ?_; focus (first | rfl | (simp; done))) | refine Blk.alloc ?_ _ | refine Blk.other ?_ ?_ _) | exact eqL rfl | (refine neB ?_; omega)))
              case hi => first | exact HS.out | simpa using HS.out
              case ho => first | exact oneInts [0, 0, 0, 0, 0, 0, 0, 0, 0, 0, 0, 0] | (and_intros <;> rfl)
              refine fresh_world (fun W' => Blk W' (w.heap.size + 1 + 1) [.int .i64 0, .int .i64 0, .int .i64 0, .int .i64 0, .int .i64 0, .int .i64 0, .int .i64 0, .int .i64 0, .int .i64 0, .int .i64 0, .int .i64 0, .int .i64 0] ∧ Acc w W') ?_ ?_
              · and_intros
                · refine Blk.setCells (vs := [.int .i64 0, .int .i64 0, .int .i64 0, .int .i64 0, .int .i64 0, .int .i64 0, .int .i64 0, .int .i64 0, .int .i64 0, .int .i64 0, .int .i64 0, .int .i64 0]) ?_ rfl
                  (repeat' (first | (with_reducible first | assumption | refine Blk.drew ?_ | refine Blk.drewN ?_ _ | apply Blk.set | (refine Blk.new ?_; focus (first | rfl | (simp; done))) | refine Blk.alloc ?_ _ | refine Blk.other ?_ ?_ _) | exact eqL rfl | (refine neB ?_; omega)))
                · refine Acc.setCells (leB (by omega)) _ _ _ ?_
                  (repeat' (first | (with_reducible first | assumption | exact Acc.refl _ | refine Acc.drew ?_ | refine Acc.drewN ?_ _ | refine Acc.alloc ?_ _ | refine Acc.setCell ?_ ?_ _) | (refine leB ?_; omega)))
              rintro we ⟨Bz, kae⟩
              have cz := Bz.cell
              refine bodyPost_ret (v := .tuple #[.agg #[.int .i64 0, .int .i64 0, .int .i64 0, .int .i64 0, .int .i64 0, .int .i64 0, .int .i64 0, .int .i64 0, .int .i64 0, .int .i64 0, .int .i64 0, .int .i64 0], .bool false]) (by simp [results, Tryd.results6, go_sem, *]) rfl ⟨fun _ _ _ _ _ _ _ _ _ _ _ _ h => (by cases h), fun _ => rfl, ?_⟩
              show Acc w _
              (repeat' (first | (with_reducible first | assumption | exact Acc.refl _ | refine Acc.drew ?_ | refine Acc.drewN ?_ _ | refine Acc.alloc ?_ _ | refine Acc.setCell ?_ ?_ _) | (refine leB ?_; omega)))
            | true =>
              go_wp2_with fail
              rw [rounds_succ]
              go_wp2_with fail
              refine wp_region_held_drew (S := fun w' => (∀ k, w'.cell? ⟨w.heap.size, k, none⟩ = [.int .i64 m0a, .int .i64 m0b, .int .i64 m0c, .int .i64 m1a, .int .i64 m1b, .int .i64 m1c, .int .i64 m2a, .int .i64 m2b, .int .i64 m2c, .int .i64 m3a, .int .i64 m3b, .int .i64 m3c, .int .i64 m4a, .int .i64 m4b, .int .i64 m4c, .int .i64 m5a, .int .i64 m5b, .int .i64 m5c, .int .i64 m6a, .int .i64 m6b, .int .i64 m6c, .int .i64 m7a, .int .i64 m7b, .int .i64 m7c, .int .i64 m8a, .int .i64 m8b, .int .i64 m8c, .int .i64 m9a, .int .i64 m9b, .int .i64 m9c, .int .i64 m10a, .int .i64 m10b, .int .i64 m10c, .int .i64 m11a, .int .i64 m11b, .int .i64 m11c, .int .i64 m12a, .int .i64 m12b, .int .i64 m12c, .int .i64 m13a, .int .i64 m13b, .int .i64 m13c, .int .i64 m14a, .int .i64 m14b, .int .i64 m14c, .int .i64 m15a, .int .i64 m15b, .int .i64 m15c][k]?) ∧ (∀ k, w'.cell? ⟨w.heap.size + 1, k, none⟩ = [.int .i64 a1, .int .i64 a2, .int .i64 a3, .int .i64 b1, .int .i64 b2, .int .i64 b3, .int .i64 c1, .int .i64 c2, .int .i64 c3, .int .i64 d1, .int .i64 d2, .int .i64 d3][k]?)) (by kernel_rfl) ?_ (fun hHeld0 => ?_)
              · (((try dsimp only); (refine ⟨Blk.cell ?_, Blk.cell ?_⟩ <;> (repeat' (first | (with_reducible first | assumption | refine Blk.drew ?_ | refine Blk.drewN ?_ _ | apply Blk.set | (refine Blk.new ?_; focus (first | rfl | (simp; done))) | refine Blk.alloc ?_ _ | refine Blk.other ?_ ?_ _) | exact eqL rfl | (refine neB ?_; omega))))))
              refine wpAnyH_take (i := 0) (v := ?v23) rfl (by kernel_rfl) (by kernel_rfl) (by kernel_rfl) (fun _ _ _ h => h) (Or.inl ⟨by rfl, ?y23⟩) (by assumption) ?r23
              case y23 =>
                intro w hSw
                (try dsimp only at hSw)
                go_simp
                (try with_reducible rfl)
              (try simp only [Act.put, List.setIfInBounds_toArray, List.set_cons_zero, List.set_cons_succ, List.getElem_toArray, List.getElem_cons_zero, List.getElem_cons_succ])
              refine wpAnyH_take (i := 1) (v := ?v24) rfl (by kernel_rfl) (by kernel_rfl) (by kernel_rfl) (fun _ _ _ h => h) (Or.inl ⟨by rfl, ?y24⟩) (by assumption) ?r24
              case y24 =>
                intro w hSw
                (try dsimp only at hSw)
                go_simp
                (try with_reducible rfl)
              (try simp only [Act.put, List.setIfInBounds_toArray, List.set_cons_zero, List.set_cons_succ, List.getElem_toArray, List.getElem_cons_zero, List.getElem_cons_succ])
              refine wpAnyH_take (i := 2) (v := .agg (#[.int .i64 m0a, .int .i64 m0b, .int .i64 m0c, .int .i64 m1a, .int .i64 m1b, .int .i64 m1c, .int .i64 m2a, .int .i64 m2b, .int .i64 m2c, .int .i64 m3a, .int .i64 m3b, .int .i64 m3c, .int .i64 m4a, .int .i64 m4b, .int .i64 m4c, .int .i64 m5a, .int .i64 m5b, .int .i64 m5c, .int .i64 m6a, .int .i64 m6b, .int .i64 m6c, .int .i64 m7a, .int .i64 m7b, .int .i64 m7c, .int .i64 m8a, .int .i64 m8b, .int .i64 m8c, .int .i64 m9a, .int .i64 m9b, .int .i64 m9c, .int .i64 m10a, .int .i64 m10b, .int .i64 m10c, .int .i64 m11a, .int .i64 m11b, .int .i64 m11c, .int .i64 m12a, .int .i64 m12b, .int .i64 m12c, .int .i64 m13a, .int .i64 m13b, .int .i64 m13c, .int .i64 m14a, .int .i64 m14b, .int .i64 m14c, .int .i64 m15a, .int .i64 m15b, .int .i64 m15c])) rfl (by kernel_rfl) (by kernel_rfl) (by kernel_rfl) (fun _ _ _ h => h) (yieldsIf_load_mid (by rfl) 38 _ rfl (w.heap.size) 0 rfl [.int .i64 m0a, .int .i64 m0b, .int .i64 m0c, .int .i64 m1a, .int .i64 m1b, .int .i64 m1c, .int .i64 m2a, .int .i64 m2b, .int .i64 m2c, .int .i64 m3a, .int .i64 m3b, .int .i64 m3c, .int .i64 m4a, .int .i64 m4b, .int .i64 m4c, .int .i64 m5a, .int .i64 m5b, .int .i64 m5c, .int .i64 m6a, .int .i64 m6b, .int .i64 m6c, .int .i64 m7a, .int .i64 m7b, .int .i64 m7c, .int .i64 m8a, .int .i64 m8b, .int .i64 m8c, .int .i64 m9a, .int .i64 m9b, .int .i64 m9c, .int .i64 m10a, .int .i64 m10b, .int .i64 m10c, .int .i64 m11a, .int .i64 m11b, .int .i64 m11c, .int .i64 m12a, .int .i64 m12b, .int .i64 m12c, .int .i64 m13a, .int .i64 m13b, .int .i64 m13c, .int .i64 m14a, .int .i64 m14b, .int .i64 m14c, .int .i64 m15a, .int .i64 m15b, .int .i64 m15c] _ ?y25 Tryd.underlying38 rfl HI.out) (by assumption) ?r25
              case y25 =>
                intro w hSw
                exact range_of hSw.1
              (try simp only [Act.put, List.setIfInBounds_toArray, List.set_cons_zero, List.set_cons_succ, List.getElem_toArray, List.getElem_cons_zero, List.getElem_cons_succ])
              refine wpAnyH_take (i := 3) (v := ?v26) rfl (by kernel_rfl) (by kernel_rfl) (by kernel_rfl) (fun _ _ _ h => h) (Or.inl ⟨by rfl, ?y26⟩) (by assumption) ?r26
              case y26 =>
                intro w hSw
                (try dsimp only at hSw)
                go_simp
                (try with_reducible rfl)
              (try simp only [Act.put, List.setIfInBounds_toArray, List.set_cons_zero, List.set_cons_succ, List.getElem_toArray, List.getElem_cons_zero, List.getElem_cons_succ])
              refine wpAnyH_take (i := 5) (v := ?v27) rfl (by kernel_rfl) (by kernel_rfl) (by kernel_rfl) (fun _ _ _ h => h) (Or.inl ⟨by rfl, ?y27⟩) (by assumption) ?r27
              case y27 =>
                intro w hSw
                (try dsimp only at hSw)
                go_simp
                (try with_reducible rfl)
              (try simp only [Act.put, List.setIfInBounds_toArray, List.set_cons_zero, List.set_cons_succ, List.getElem_toArray, List.getElem_cons_zero, List.getElem_cons_succ])
              refine wpAnyH_take (i := 6) (v := ?v28) rfl (by kernel_rfl) (by kernel_rfl) (by kernel_rfl) (fun _ _ _ h => h) (Or.inl ⟨by rfl, ?y28⟩) (by assumption) ?r28
              case y28 =>
                intro w hSw
                (try dsimp only at hSw)
                go_simp
                (try with_reducible rfl)
              (try simp only [Act.put, List.setIfInBounds_toArray, List.set_cons_zero, List.set_cons_succ, List.getElem_toArray, List.getElem_cons_zero, List.getElem_cons_succ])
              refine wpAnyH_take (i := 8) (v := ?v29) rfl (by kernel_rfl) (by kernel_rfl) (by kernel_rfl) (fun _ _ _ h => h) (Or.inl ⟨by rfl, ?y29⟩) (by assumption) ?r29
              case y29 =>
                intro w hSw
                (try dsimp only at hSw)
                go_simp
                (try with_reducible rfl)
              (try simp only [Act.put, List.setIfInBounds_toArray, List.set_cons_zero, List.set_cons_succ, List.getElem_toArray, List.getElem_cons_zero, List.getElem_cons_succ])
              refine wpAnyH_ready (rs := [4]) (by kernel_rfl) (by simp) ?_
              refine AllReadyH.cons rfl (fun K hK => ?_) AllReadyH.nil
              go_simp
              go_at_call 19; refine (specTOf_2 m0a m0b m0c m1a m1b m1c m2a m2b m2c m3a m3b m3c m4a m4b m4c m5a m5b m5c m6a m6b m6c m7a m7b m7c m8a m8b m8c m9a m9b m9c m10a m10b m10c m11a m11b m11c m12a m12b m12c m13a m13b m13c m14a m14b m14c m15a m15b m15c _).mono ?_; rintro e W8 ⟨rfl, hb⟩; have Ba : Blk W8 (w.heap.size) [.int .i64 m0a, .int .i64 m0b, .int .i64 m0c, .int .i64 m1a, .int .i64 m1b, .int .i64 m1c, .int .i64 m2a, .int .i64 m2b, .int .i64 m2c, .int .i64 m3a, .int .i64 m3b, .int .i64 m3c, .int .i64 m4a, .int .i64 m4b, .int .i64 m4c, .int .i64 m5a, .int .i64 m5b, .int .i64 m5c, .int .i64 m6a, .int .i64 m6b, .int .i64 m6c, .int .i64 m7a, .int .i64 m7b, .int .i64 m7c, .int .i64 m8a, .int .i64 m8b, .int .i64 m8c, .int .i64 m9a, .int .i64 m9b, .int .i64 m9c, .int .i64 m10a, .int .i64 m10b, .int .i64 m10c, .int .i64 m11a, .int .i64 m11b, .int .i64 m11c, .int .i64 m12a, .int .i64 m12b, .int .i64 m12c, .int .i64 m13a, .int .i64 m13b, .int .i64 m13c, .int .i64 m14a, .int .i64 m14b, .int .i64 m14c, .int .i64 m15a, .int .i64 m15b, .int .i64 m15c] := Blk.keep hb (by repeat' (first | (with_reducible first | assumption | refine Blk.drew ?_ | refine Blk.drewN ?_ _ | apply Blk.set | (refine Blk.new ?_; focus (first | rfl | (simp; done))) | refine Blk.alloc ?_ _ | refine Blk.other ?_ ?_ _) | exact eqL rfl | (refine neB ?_; omega))); have Bb : Blk W8 (w.heap.size + 1) [.int .i64 a1, .int .i64 a2, .int .i64 a3, .int .i64 b1, .int .i64 b2, .int .i64 b3, .int .i64 c1, .int .i64 c2, .int .i64 c3, .int .i64 d1, .int .i64 d2, .int .i64 d3] := Blk.keep hb (by repeat' (first | (with_reducible first | assumption | refine Blk.drew ?_ | refine Blk.drewN ?_ _ | apply Blk.set | (refine Blk.new ?_; focus (first | rfl | (simp; done))) | refine Blk.alloc ?_ _ | refine Blk.other ?_ ?_ _) | exact eqL rfl | (refine neB ?_; omega))); have Br : Blk W8 (w.heap.size + 1 + 1) [.int .i64 0, .int .i64 0, .int .i64 0, .int .i64 0, .int .i64 0, .int .i64 0, .int .i64 0, .int .i64 0, .int .i64 0, .int .i64 0, .int .i64 0, .int .i64 0] := Blk.keep hb (by repeat' (first | (with_reducible first | assumption | refine Blk.drew ?_ | refine Blk.drewN ?_ _ | apply Blk.set | (refine Blk.new ?_; focus (first | rfl | (simp; done))) | refine Blk.alloc ?_ _ | refine Blk.other ?_ ?_ _) | exact eqL rfl | (refine neB ?_; omega))); have Bfl : Blk W8 (W2.heap.size) [.bool true] := Blk.keep hb (by repeat' (first | (with_reducible first | assumption | refine Blk.drew ?_ | refine Blk.drewN ?_ _ | apply Blk.set | (refine Blk.new ?_; focus (first | rfl | (simp; done))) | refine Blk.alloc ?_ _ | refine Blk.other ?_ ?_ _) | exact eqL rfl | (refine neB ?_; omega))); have Bo : Blk W8 (W2.heap.size + 1) [.int .i64 ra1, .int .i64 ra2, .int .i64 ra3, .int .i64 rb1, .int .i64 rb2, .int .i64 rb3, .int .i64 0, .int .i64 0, .int .i64 0, .int .i64 0, .int .i64 0, .int .i64 0] := Blk.keep hb (by repeat' (first | (with_reducible first | assumption | refine Blk.drew ?_ | refine Blk.drewN ?_ _ | apply Blk.set | (refine Blk.new ?_; focus (first | rfl | (simp; done))) | refine Blk.alloc ?_ _ | refine Blk.other ?_ ?_ _) | exact eqL rfl | (refine neB ?_; omega))); have ca := Ba.cell; have fa := Ba.free; have la_W8 := Ba.lt; have cb := Bb.cell; have fb := Bb.free; have lb_W8 := Bb.lt; have cr := Br.cell; have fr := Br.free; have lr_W8 := Br.lt; have cfl := Bfl.cell; have ffl := Bfl.free; have lfl_W8 := Bfl.lt; have co := Bo.cell; have fo := Bo.free; have lo_W8 := Bo.lt; have kaW8 : Acc w W8 := (by refine Acc.call ?_ hb; (repeat' (first | (with_reducible first | assumption | exact Acc.refl _ | refine Acc.drew ?_ | refine Acc.drewN ?_ _ | refine Acc.alloc ?_ _ | refine Acc.setCell ?_ ?_ _) | (refine leB ?_; omega)))); clear hb
              refine hK.out _ _ ?_ (fun hHeld30 => ?_)
              · (((try dsimp only); (refine ⟨Blk.cell ?_, Blk.cell ?_⟩ <;> (repeat' (first | (with_reducible first | assumption | refine Blk.drew ?_ | refine Blk.drewN ?_ _ | apply Blk.set | (refine Blk.new ?_; focus (first | rfl | (simp; done))) | refine Blk.alloc ?_ _ | refine Blk.other ?_ ?_ _) | exact eqL rfl | (refine neB ?_; omega))))))
              clear hK K hHeld0
              (try simp only [Act.put, List.setIfInBounds_toArray, List.set_cons_zero, List.set_cons_succ, List.getElem_toArray, List.getElem_cons_zero, List.getElem_cons_succ])
              refine wpAnyH_ready (rs := [7]) (by kernel_rfl) (by simp) ?_
              refine AllReadyH.cons rfl (fun K hK => ?_) AllReadyH.nil
              go_simp
              go_at_call 18; refine (specTRow_at C2.out D2.out (show (true && f2) = f2 from rfl) _ _ (by repeat' (first | (with_reducible first | assumption | refine Blk.drew ?_ | refine Blk.drewN ?_ _ | apply Blk.set | (refine Blk.new ?_; focus (first | rfl | (simp; done))) | refine Blk.alloc ?_ _ | refine Blk.other ?_ ?_ _) | exact eqL rfl | (refine neB ?_; omega)))).mono ?_; rintro e W9 ⟨rfl, Bfl, ho⟩; have Ba : Blk W9 (w.heap.size) [.int .i64 m0a, .int .i64 m0b, .int .i64 m0c, .int .i64 m1a, .int .i64 m1b, .int .i64 m1c, .int .i64 m2a, .int .i64 m2b, .int .i64 m2c, .int .i64 m3a, .int .i64 m3b, .int .i64 m3c, .int .i64 m4a, .int .i64 m4b, .int .i64 m4c, .int .i64 m5a, .int .i64 m5b, .int .i64 m5c, .int .i64 m6a, .int .i64 m6b, .int .i64 m6c, .int .i64 m7a, .int .i64 m7b, .int .i64 m7c, .int .i64 m8a, .int .i64 m8b, .int .i64 m8c, .int .i64 m9a, .int .i64 m9b, .int .i64 m9c, .int .i64 m10a, .int .i64 m10b, .int .i64 m10c, .int .i64 m11a, .int .i64 m11b, .int .i64 m11c, .int .i64 m12a, .int .i64 m12b, .int .i64 m12c, .int .i64 m13a, .int .i64 m13b, .int .i64 m13c, .int .i64 m14a, .int .i64 m14b, .int .i64 m14c, .int .i64 m15a, .int .i64 m15b, .int .i64 m15c] := Blk.keepo ho (neB (by omega)) (by repeat' (first | (with_reducible first | assumption | refine Blk.drew ?_ | refine Blk.drewN ?_ _ | apply Blk.set | (refine Blk.new ?_; focus (first | rfl | (simp; done))) | refine Blk.alloc ?_ _ | refine Blk.other ?_ ?_ _) | exact eqL rfl | (refine neB ?_; omega))); have Bb : Blk W9 (w.heap.size + 1) [.int .i64 a1, .int .i64 a2, .int .i64 a3, .int .i64 b1, .int .i64 b2, .int .i64 b3, .int .i64 c1, .int .i64 c2, .int .i64 c3, .int .i64 d1, .int .i64 d2, .int .i64 d3] := Blk.keepo ho (neB (by omega)) (by repeat' (first | (with_reducible first | assumption | refine Blk.drew ?_ | refine Blk.drewN ?_ _ | apply Blk.set | (refine Blk.new ?_; focus (first | rfl | (simp; done))) | refine Blk.alloc ?_ _ | refine Blk.other ?_ ?_ _) | exact eqL rfl | (refine neB ?_; omega))); have Br : Blk W9 (w.heap.size + 1 + 1) [.int .i64 0, .int .i64 0, .int .i64 0, .int .i64 0, .int .i64 0, .int .i64 0, .int .i64 0, .int .i64 0, .int .i64 0, .int .i64 0, .int .i64 0, .int .i64 0] := Blk.keepo ho (neB (by omega)) (by repeat' (first | (with_reducible first | assumption | refine Blk.drew ?_ | refine Blk.drewN ?_ _ | apply Blk.set | (refine Blk.new ?_; focus (first | rfl | (simp; done))) | refine Blk.alloc ?_ _ | refine Blk.other ?_ ?_ _) | exact eqL rfl | (refine neB ?_; omega))); have Bo : Blk W9 (W2.heap.size + 1) [.int .i64 ra1, .int .i64 ra2, .int .i64 ra3, .int .i64 rb1, .int .i64 rb2, .int .i64 rb3, .int .i64 0, .int .i64 0, .int .i64 0, .int .i64 0, .int .i64 0, .int .i64 0] := Blk.keepo ho (neB (by omega)) (by repeat' (first | (with_reducible first | assumption | refine Blk.drew ?_ | refine Blk.drewN ?_ _ | apply Blk.set | (refine Blk.new ?_; focus (first | rfl | (simp; done))) | refine Blk.alloc ?_ _ | refine Blk.other ?_ ?_ _) | exact eqL rfl | (refine neB ?_; omega))); have ca := Ba.cell; have fa := Ba.free; have la_W9 := Ba.lt; have cb := Bb.cell; have fb := Bb.free; have lb_W9 := Bb.lt; have cr := Br.cell; have fr := Br.free; have lr_W9 := Br.lt; have cfl := Bfl.cell; have ffl := Bfl.free; have lfl_W9 := Bfl.lt; have co := Bo.cell; have fo := Bo.free; have lo_W9 := Bo.lt; have kaW9 : Acc w W9 := (by refine Acc.only ?_ (leB (by omega)) ho; (repeat' (first | (with_reducible first | assumption | exact Acc.refl _ | refine Acc.drew ?_ | refine Acc.drewN ?_ _ | refine Acc.alloc ?_ _ | refine Acc.setCell ?_ ?_ _) | (refine leB ?_; omega)))); have lsW9 := ho.size; clear ho
              refine hK.out _ _ ?_ (fun hHeld31 => ?_)
              · (((try dsimp only); (refine ⟨Blk.cell ?_, Blk.cell ?_⟩ <;> (repeat' (first | (with_reducible first | assumption | refine Blk.drew ?_ | refine Blk.drewN ?_ _ | apply Blk.set | (refine Blk.new ?_; focus (first | rfl | (simp; done))) | refine Blk.alloc ?_ _ | refine Blk.other ?_ ?_ _) | exact eqL rfl | (refine neB ?_; omega))))))
              clear hK K hHeld30
              (try simp only [Act.put, List.setIfInBounds_toArray, List.set_cons_zero, List.set_cons_succ, List.getElem_toArray, List.getElem_cons_zero, List.getElem_cons_succ])
              refine wpAnyH_take (i := 9) (v := ?v32) rfl (by kernel_rfl) (by kernel_rfl) (by kernel_rfl) (fun _ _ _ h => h) (Or.inl ⟨by rfl, ?y32⟩) (by assumption) ?r32
              case y32 =>
                intro w hSw
                (try dsimp only at hSw)
                go_simp
                (try with_reducible rfl)
              (try simp only [Act.put, List.setIfInBounds_toArray, List.set_cons_zero, List.set_cons_succ, List.getElem_toArray, List.getElem_cons_zero, List.getElem_cons_succ])
              refine wpAnyH_ready (rs := [10]) (by kernel_rfl) (by simp) ?_
              refine AllReadyH.cons rfl (fun K hK => ?_) AllReadyH.nil
              go_simp
              refine hK.out _ _ ?_ (fun hHeld33 => ?_)
              · (((try dsimp only); (refine ⟨Blk.cell ?_, Blk.cell ?_⟩ <;> (repeat' (first | (with_reducible first | assumption | refine Blk.drew ?_ | refine Blk.drewN ?_ _ | apply Blk.set | (refine Blk.new ?_; focus (first | rfl | (simp; done))) | refine Blk.alloc ?_ _ | refine Blk.other ?_ ?_ _) | exact eqL rfl | (refine neB ?_; omega))))))
              clear hK K hHeld31
              (try simp only [Act.put, List.setIfInBounds_toArray, List.set_cons_zero, List.set_cons_succ, List.getElem_toArray, List.getElem_cons_zero, List.getElem_cons_succ])
              clear hHeld33
              refine wpAnyH_done (by kernel_rfl) ?_ _
              refine fresh_world (fun W' => Blk W' (w.heap.size) [.int .i64 m0a, .int .i64 m0b, .int .i64 m0c, .int .i64 m1a, .int .i64 m1b, .int .i64 m1c, .int .i64 m2a, .int .i64 m2b, .int .i64 m2c, .int .i64 m3a, .int .i64 m3b, .int .i64 m3c, .int .i64 m4a, .int .i64 m4b, .int .i64 m4c, .int .i64 m5a, .int .i64 m5b, .int .i64 m5c, .int .i64 m6a, .int .i64 m6b, .int .i64 m6c, .int .i64 m7a, .int .i64 m7b, .int .i64 m7c, .int .i64 m8a, .int .i64 m8b, .int .i64 m8c, .int .i64 m9a, .int .i64 m9b, .int .i64 m9c, .int .i64 m10a, .int .i64 m10b, .int .i64 m10c, .int .i64 m11a, .int .i64 m11b, .int .i64 m11c, .int .i64 m12a, .int .i64 m12b, .int .i64 m12c, .int .i64 m13a, .int .i64 m13b, .int .i64 m13c, .int .i64 m14a, .int .i64 m14b, .int .i64 m14c, .int .i64 m15a, .int .i64 m15b, .int .i64 m15c] ∧ Blk W' (w.heap.size + 1) [.int .i64 a1, .int .i64 a2, .int .i64 a3, .int .i64 b1, .int .i64 b2, .int .i64 b3, .int .i64 c1, .int .i64 c2, .int .i64 c3, .int .i64 d1, .int .i64 d2, .int .i64 d3] ∧ Blk W' (w.heap.size + 1 + 1) [.int .i64 0, .int .i64 0, .int .i64 0, .int .i64 0, .int .i64 0, .int .i64 0, .int .i64 0, .int .i64 0, .int .i64 0, .int .i64 0, .int .i64 0, .int .i64 0] ∧ Blk W' (W2.heap.size) [.bool f2] ∧ Blk W' (W2.heap.size + 1) [.int .i64 ra1, .int .i64 ra2, .int .i64 ra3, .int .i64 rb1, .int .i64 rb2, .int .i64 rb3, .int .i64 rc1, .int .i64 rc2, .int .i64 rc3, .int .i64 0, .int .i64 0, .int .i64 0] ∧ Acc w W') ?_ ?_
              · and_intros
                all_goals
                  first
                    | ((repeat' (first | (with_reducible first | assumption | refine Blk.drew ?_ | refine Blk.drewN ?_ _ | apply Blk.set | (refine Blk.new ?_; focus (first | rfl | (simp; done))) | refine Blk.alloc ?_ _ | refine Blk.other ?_ ?_ _) | exact eqL rfl | (refine neB ?_; omega))); done)
                    | ((show Acc w _); (repeat' (first | (with_reducible first | assumption | exact Acc.refl _ | refine Acc.drew ?_ | refine Acc.drewN ?_ _ | refine Acc.alloc ?_ _ | refine Acc.setCell ?_ ?_ _) | (refine leB ?_; omega))); done)
              try clear Ba
              try clear ca
              try clear fa
              try clear la_W9
              try clear Bb
              try clear cb
              try clear fb
              try clear lb_W9
              try clear Br
              try clear cr
              try clear fr
              try clear lr_W9
              try clear Bfl
              try clear cfl
              try clear ffl
              try clear lfl_W9
              try clear Bo
              try clear co
              try clear fo
              try clear lo_W9
              try clear kaW9
              rintro wf5 ⟨Ba, Bb, Br, Bfl, Bo, kawf5⟩
              as_aux_lemma =>
                have ca := Ba.cell
                have fa := Ba.free
                have la_wf5 := Ba.lt
                have cb := Bb.cell
                have fb := Bb.free
                have lb_wf5 := Bb.lt
                have cr := Br.cell
                have fr := Br.free
                have lr_wf5 := Br.lt
                have cfl := Bfl.cell
                have ffl := Bfl.free
                have lfl_wf5 := Bfl.lt
                have co := Bo.cell
                have fo := Bo.free
                have lo_wf5 := Bo.lt
                cases f2 with
                | false =>
                  obtain rfl : o = none := HE.out.symm.trans ((appTb_at V0.out (show rl4 ((a1, a2, a3), (b1, b2, b3), (c1, c2, c3), (d1, d2, d3)) = true from V1.out)).trans (show quadO (rowT ((m0a, m0b, m0c), (m1a, m1b, m1c), (m2a, m2b, m2c), (m3a, m3b, m3c)) ((a1, a2, a3), (b1, b2, b3), (c1, c2, c3), (d1, d2, d3))) (rowT ((m4a, m4b, m4c), (m5a, m5b, m5c), (m6a, m6b, m6c), (m7a, m7b, m7c)) ((a1, a2, a3), (b1, b2, b3), (c1, c2, c3), (d1, d2, d3))) (rowT ((m8a, m8b, m8c), (m9a, m9b, m9c), (m10a, m10b, m10c), (m11a, m11b, m11c)) ((a1, a2, a3), (b1, b2, b3), (c1, c2, c3), (d1, d2, d3))) (rowT ((m12a, m12b, m12c), (m13a, m13b, m13c), (m14a, m14b, m14c), (m15a, m15b, m15c)) ((a1, a2, a3), (b1, b2, b3), (c1, c2, c3), (d1, d2, d3))) = none by rw [show rowT ((m8a, m8b, m8c), (m9a, m9b, m9c), (m10a, m10b, m10c), (m11a, m11b, m11c)) ((a1, a2, a3), (b1, b2, b3), (c1, c2, c3), (d1, d2, d3)) = none from (rowT_at C2.out D2.out).trans (if_neg (by decide))]; exact quad_n3 _ _ _))
                  go_wp2_with fail
                  rw [rounds_succ]
                  go_wp2_with (refine wpList_store_mid rfl 33 (.tmp 4) (.tmp 43) rfl (w.heap.size + 1 + 1) 0 #[.int .i64 0, .int .i64 0, .int .i64 0, .int .i64 0, .int .i64 0, .int .i64 0, .int .i64 0, .int .i64 0, .int .i64 0, .int .i64 0, .int .i64 0, .int .i64 0] rfl rfl ?ht ?hi ?ho ?_)
                  case ht =>
                    refine there_of (vs := [.int .i64 0, .int .i64 0, .int .i64 0, .int .i64 0, .int .i64 0, .int .i64 0, .int .i64 0, .int .i64 0, .int .i64 0, .int .i64 0, .int .i64 0, .int .i64 0]) ?_ rfl
                    (repeat' (first | (with_reducible first | assumption | refine Blk.drew ?_ | refine Blk.drewN ?_ _ | apply Blk.set | (refine Blk.new ?_; focus (first | rfl | (simp; done))) | refine Blk.alloc ?_ _ | refine Blk.other ?_ ?_ _) | exact eqL rfl | (refine neB ?_; omega)))
                  case hi => first | exact HS.out | simpa using HS.out
                  case ho => first | exact oneInts [0, 0, 0, 0, 0, 0, 0, 0, 0, 0, 0, 0] | (and_intros <;> rfl)
                  refine fresh_world (fun W' => Blk W' (w.heap.size + 1 + 1) [.int .i64 0, .int .i64 0, .int .i64 0, .int .i64 0, .int .i64 0, .int .i64 0, .int .i64 0, .int .i64 0, .int .i64 0, .int .i64 0, .int .i64 0, .int .i64 0] ∧ Acc w W') ?_ ?_
                  · and_intros
                    · refine Blk.setCells (vs := [.int .i64 0, .int .i64 0, .int .i64 0, .int .i64 0, .int .i64 0, .int .i64 0, .int .i64 0, .int .i64 0, .int .i64 0, .int .i64 0, .int .i64 0, .int .i64 0]) ?_ rfl
                      (repeat' (first | (with_reducible first | assumption | refine Blk.drew ?_ | refine Blk.drewN ?_ _ | apply Blk.set | (refine Blk.new ?_; focus (first | rfl | (simp; done))) | refine Blk.alloc ?_ _ | refine Blk.other ?_ ?_ _) | exact eqL rfl | (refine neB ?_; omega)))
                    · refine Acc.setCells (leB (by omega)) _ _ _ ?_
                      (repeat' (first | (with_reducible first | assumption | exact Acc.refl _ | refine Acc.drew ?_ | refine Acc.drewN ?_ _ | refine Acc.alloc ?_ _ | refine Acc.setCell ?_ ?_ _) | (refine leB ?_; omega)))
                  rintro we ⟨Bz, kae⟩
                  have cz := Bz.cell
                  refine bodyPost_ret (v := .tuple #[.agg #[.int .i64 0, .int .i64 0, .int .i64 0, .int .i64 0, .int .i64 0, .int .i64 0, .int .i64 0, .int .i64 0, .int .i64 0, .int .i64 0, .int .i64 0, .int .i64 0], .bool false]) (by simp [results, Tryd.results6, go_sem, *]) rfl ⟨fun _ _ _ _ _ _ _ _ _ _ _ _ h => (by cases h), fun _ => rfl, ?_⟩
                  show Acc w _
                  (repeat' (first | (with_reducible first | assumption | exact Acc.refl _ | refine Acc.drew ?_ | refine Acc.drewN ?_ _ | refine Acc.alloc ?_ _ | refine Acc.setCell ?_ ?_ _) | (refine leB ?_; omega)))
                | true =>
                  go_wp2_with fail
                  rw [rounds_succ]
                  go_wp2_with fail
                  refine wp_region_held_drew (S := fun w' => (∀ k, w'.cell? ⟨w.heap.size, k, none⟩ = [.int .i64 m0a, .int .i64 m0b, .int .i64 m0c, .int .i64 m1a, .int .i64 m1b, .int .i64 m1c, .int .i64 m2a, .int .i64 m2b, .int .i64 m2c, .int .i64 m3a, .int .i64 m3b, .int .i64 m3c, .int .i64 m4a, .int .i64 m4b, .int .i64 m4c, .int .i64 m5a, .int .i64 m5b, .int .i64 m5c, .int .i64 m6a, .int .i64 m6b, .int .i64 m6c, .int .i64 m7a, .int .i64 m7b, .int .i64 m7c, .int .i64 m8a, .int .i64 m8b, .int .i64 m8c, .int .i64 m9a, .int .i64 m9b, .int .i64 m9c, .int .i64 m10a, .int .i64 m10b, .int .i64 m10c, .int .i64 m11a, .int .i64 m11b, .int .i64 m11c, .int .i64 m12a, .int .i64 m12b, .int .i64 m12c, .int .i64 m13a, .int .i64 m13b, .int .i64 m13c, .int .i64 m14a, .int .i64 m14b, .int .i64 m14c, .int .i64 m15a, .int .i64 m15b, .int .i64 m15c][k]?) ∧ (∀ k, w'.cell? ⟨w.heap.size + 1, k, none⟩ = [.int .i64 a1, .int .i64 a2, .int .i64 a3, .int .i64 b1, .int .i64 b2, .int .i64 b3, .int .i64 c1, .int .i64 c2, .int .i64 c3, .int .i64 d1, .int .i64 d2, .int .i64 d3][k]?)) (by kernel_rfl) ?_ (fun hHeld0 => ?_)
                  · (((try dsimp only); (refine ⟨Blk.cell ?_, Blk.cell ?_⟩ <;> (repeat' (first | (with_reducible first | assumption | refine Blk.drew ?_ | refine Blk.drewN ?_ _ | apply Blk.set | (refine Blk.new ?_; focus (first | rfl | (simp; done))) | refine Blk.alloc ?_ _ | refine Blk.other ?_ ?_ _) | exact eqL rfl | (refine neB ?_; omega))))))
                  refine wpAnyH_take (i := 0) (v := ?v34) rfl (by kernel_rfl) (by kernel_rfl) (by kernel_rfl) (fun _ _ _ h => h) (Or.inl ⟨by rfl, ?y34⟩) (by assumption) ?r34
                  case y34 =>
                    intro w hSw
                    (try dsimp only at hSw)
                    go_simp
                    (try with_reducible rfl)
                  (try simp only [Act.put, List.setIfInBounds_toArray, List.set_cons_zero, List.set_cons_succ, List.getElem_toArray, List.getElem_cons_zero, List.getElem_cons_succ])
                  refine wpAnyH_take (i := 1) (v := ?v35) rfl (by kernel_rfl) (by kernel_rfl) (by kernel_rfl) (fun _ _ _ h => h) (Or.inl ⟨by rfl, ?y35⟩) (by assumption) ?r35
                  case y35 =>
                    intro w hSw
                    (try dsimp only at hSw)
                    go_simp
                    (try with_reducible rfl)
                  (try simp only [Act.put, List.setIfInBounds_toArray, List.set_cons_zero, List.set_cons_succ, List.getElem_toArray, List.getElem_cons_zero, List.getElem_cons_succ])
                  refine wpAnyH_take (i := 2) (v := .agg (#[.int .i64 m0a, .int .i64 m0b, .int .i64 m0c, .int .i64 m1a, .int .i64 m1b, .int .i64 m1c, .int .i64 m2a, .int .i64 m2b, .int .i64 m2c, .int .i64 m3a, .int .i64 m3b, .int .i64 m3c, .int .i64 m4a, .int .i64 m4b, .int .i64 m4c, .int .i64 m5a, .int .i64 m5b, .int .i64 m5c, .int .i64 m6a, .int .i64 m6b, .int .i64 m6c, .int .i64 m7a, .int .i64 m7b, .int .i64 m7c, .int .i64 m8a, .int .i64 m8b, .int .i64 m8c, .int .i64 m9a, .int .i64 m9b, .int .i64 m9c, .int .i64 m10a, .int .i64 m10b, .int .i64 m10c, .int .i64 m11a, .int .i64 m11b, .int .i64 m11c, .int .i64 m12a, .int .i64 m12b, .int .i64 m12c, .int .i64 m13a, .int .i64 m13b, .int .i64 m13c, .int .i64 m14a, .int .i64 m14b, .int .i64 m14c, .int .i64 m15a, .int .i64 m15b, .int .i64 m15c])) rfl (by kernel_rfl) (by kernel_rfl) (by kernel_rfl) (fun _ _ _ h => h) (yieldsIf_load_mid (by rfl) 38 _ rfl (w.heap.size) 0 rfl [.int .i64 m0a, .int .i64 m0b, .int .i64 m0c, .int .i64 m1a, .int .i64 m1b, .int .i64 m1c, .int .i64 m2a, .int .i64 m2b, .int .i64 m2c, .int .i64 m3a, .int .i64 m3b, .int .i64 m3c, .int .i64 m4a, .int .i64 m4b, .int .i64 m4c, .int .i64 m5a, .int .i64 m5b, .int .i64 m5c, .int .i64 m6a, .int .i64 m6b, .int .i64 m6c, .int .i64 m7a, .int .i64 m7b, .int .i64 m7c, .int .i64 m8a, .int .i64 m8b, .int .i64 m8c, .int .i64 m9a, .int .i64 m9b, .int .i64 m9c, .int .i64 m10a, .int .i64 m10b, .int .i64 m10c, .int .i64 m11a, .int .i64 m11b, .int .i64 m11c, .int .i64 m12a, .int .i64 m12b, .int .i64 m12c, .int .i64 m13a, .int .i64 m13b, .int .i64 m13c, .int .i64 m14a, .int .i64 m14b, .int .i64 m14c, .int .i64 m15a, .int .i64 m15b, .int .i64 m15c] _ ?y36 Tryd.underlying38 rfl HI.out) (by assumption) ?r36
                  case y36 =>
                    intro w hSw
                    exact range_of hSw.1
                  (try simp only [Act.put, List.setIfInBounds_toArray, List.set_cons_zero, List.set_cons_succ, List.getElem_toArray, List.getElem_cons_zero, List.getElem_cons_succ])
                  refine wpAnyH_take (i := 3) (v := ?v37) rfl (by kernel_rfl) (by kernel_rfl) (by kernel_rfl) (fun _ _ _ h => h) (Or.inl ⟨by rfl, ?y37⟩) (by assumption) ?r37
                  case y37 =>
                    intro w hSw
                    (try dsimp only at hSw)
                    go_simp
                    (try with_reducible rfl)
                  (try simp only [Act.put, List.setIfInBounds_toArray, List.set_cons_zero, List.set_cons_succ, List.getElem_toArray, List.getElem_cons_zero, List.getElem_cons_succ])
                  refine wpAnyH_take (i := 5) (v := ?v38) rfl (by kernel_rfl) (by kernel_rfl) (by kernel_rfl) (fun _ _ _ h => h) (Or.inl ⟨by rfl, ?y38⟩) (by assumption) ?r38
                  case y38 =>
                    intro w hSw
                    (try dsimp only at hSw)
                    go_simp
                    (try with_reducible rfl)
                  (try simp only [Act.put, List.setIfInBounds_toArray, List.set_cons_zero, List.set_cons_succ, List.getElem_toArray, List.getElem_cons_zero, List.getElem_cons_succ])
                  refine wpAnyH_take (i := 6) (v := ?v39) rfl (by kernel_rfl) (by kernel_rfl) (by kernel_rfl) (fun _ _ _ h => h) (Or.inl ⟨by rfl, ?y39⟩) (by assumption) ?r39
                  case y39 =>
                    intro w hSw
                    (try dsimp only at hSw)
                    go_simp
                    (try with_reducible rfl)
                  (try simp only [Act.put, List.setIfInBounds_toArray, List.set_cons_zero, List.set_cons_succ, List.getElem_toArray, List.getElem_cons_zero, List.getElem_cons_succ])
                  refine wpAnyH_take (i := 8) (v := ?v40) rfl (by kernel_rfl) (by kernel_rfl) (by kernel_rfl) (fun _ _ _ h => h) (Or.inl ⟨by rfl, ?y40⟩) (by assumption) ?r40
                  case y40 =>
                    intro w hSw
                    (try dsimp only at hSw)
                    go_simp
                    (try with_reducible rfl)
                  (try simp only [Act.put, List.setIfInBounds_toArray, List.set_cons_zero, List.set_cons_succ, List.getElem_toArray, List.getElem_cons_zero, List.getElem_cons_succ])
                  refine wpAnyH_ready (rs := [4]) (by kernel_rfl) (by simp) ?_
                  refine AllReadyH.cons rfl (fun K hK => ?_) AllReadyH.nil
                  go_simp
                  go_at_call 19; refine (specTOf_3 m0a m0b m0c m1a m1b m1c m2a m2b m2c m3a m3b m3c m4a m4b m4c m5a m5b m5c m6a m6b m6c m7a m7b m7c m8a m8b m8c m9a m9b m9c m10a m10b m10c m11a m11b m11c m12a m12b m12c m13a m13b m13c m14a m14b m14c m15a m15b m15c _).mono ?_; rintro e W8 ⟨rfl, hb⟩; have Ba : Blk W8 (w.heap.size) [.int .i64 m0a, .int .i64 m0b, .int .i64 m0c, .int .i64 m1a, .int .i64 m1b, .int .i64 m1c, .int .i64 m2a, .int .i64 m2b, .int .i64 m2c, .int .i64 m3a, .int .i64 m3b, .int .i64 m3c, .int .i64 m4a, .int .i64 m4b, .int .i64 m4c, .int .i64 m5a, .int .i64 m5b, .int .i64 m5c, .int .i64 m6a, .int .i64 m6b, .int .i64 m6c, .int .i64 m7a, .int .i64 m7b, .int .i64 m7c, .int .i64 m8a, .int .i64 m8b, .int .i64 m8c, .int .i64 m9a, .int .i64 m9b, .int .i64 m9c, .int .i64 m10a, .int .i64 m10b, .int .i64 m10c, .int .i64 m11a, .int .i64 m11b, .int .i64 m11c, .int .i64 m12a, .int .i64 m12b, .int .i64 m12c, .int .i64 m13a, .int .i64 m13b, .int .i64 m13c, .int .i64 m14a, .int .i64 m14b, .int .i64 m14c, .int .i64 m15a, .int .i64 m15b, .int .i64 m15c] := Blk.keep hb (by repeat' (first | (with_reducible first | assumption | refine Blk.drew ?_ | refine Blk.drewN ?_ _ | apply Blk.set | (refine Blk.new ?_; focus (first | rfl | (simp; done))) | refine Blk.alloc ?_ _ | refine Blk.other ?_ ?_ _) | exact eqL rfl | (refine neB ?_; omega))); have Bb : Blk W8 (w.heap.size + 1) [.int .i64 a1, .int .i64 a2, .int .i64 a3, .int .i64 b1, .int .i64 b2, .int .i64 b3, .int .i64 c1, .int .i64 c2, .int .i64 c3, .int .i64 d1, .int .i64 d2, .int .i64 d3] := Blk.keep hb (by repeat' (first | (with_reducible first | assumption | refine Blk.drew ?_ | refine Blk.drewN ?_ _ | apply Blk.set | (refine Blk.new ?_; focus (first | rfl | (simp; done))) | refine Blk.alloc ?_ _ | refine Blk.other ?_ ?_ _) | exact eqL rfl | (refine neB ?_; omega))); have Br : Blk W8 (w.heap.size + 1 + 1) [.int .i64 0, .int .i64 0, .int .i64 0, .int .i64 0, .int .i64 0, .int .i64 0, .int .i64 0, .int .i64 0, .int .i64 0, .int .i64 0, .int .i64 0, .int .i64 0] := Blk.keep hb (by repeat' (first | (with_reducible first | assumption | refine Blk.drew ?_ | refine Blk.drewN ?_ _ | apply Blk.set | (refine Blk.new ?_; focus (first | rfl | (simp; done))) | refine Blk.alloc ?_ _ | refine Blk.other ?_ ?_ _) | exact eqL rfl | (refine neB ?_; omega))); have Bfl : Blk W8 (W2.heap.size) [.bool true] := Blk.keep hb (by repeat' (first | (with_reducible first | assumption | refine Blk.drew ?_ | refine Blk.drewN ?_ _ | apply Blk.set | (refine Blk.new ?_; focus (first | rfl | (simp; done))) | refine Blk.alloc ?_ _ | refine Blk.other ?_ ?_ _) | exact eqL rfl | (refine neB ?_; omega))); have Bo : Blk W8 (W2.heap.size + 1) [.int .i64 ra1, .int .i64 ra2, .int .i64 ra3, .int .i64 rb1, .int .i64 rb2, .int .i64 rb3, .int .i64 rc1, .int .i64 rc2, .int .i64 rc3, .int .i64 0, .int .i64 0, .int .i64 0] := Blk.keep hb (by repeat' (first | (with_reducible first | assumption | refine Blk.drew ?_ | refine Blk.drewN ?_ _ | apply Blk.set | (refine Blk.new ?_; focus (first | rfl | (simp; done))) | refine Blk.alloc ?_ _ | refine Blk.other ?_ ?_ _) | exact eqL rfl | (refine neB ?_; omega))); have ca := Ba.cell; have fa := Ba.free; have la_W8 := Ba.lt; have cb := Bb.cell; have fb := Bb.free; have lb_W8 := Bb.lt; have cr := Br.cell; have fr := Br.free; have lr_W8 := Br.lt; have cfl := Bfl.cell; have ffl := Bfl.free; have lfl_W8 := Bfl.lt; have co := Bo.cell; have fo := Bo.free; have lo_W8 := Bo.lt; have kaW8 : Acc w W8 := (by refine Acc.call ?_ hb; (repeat' (first | (with_reducible first | assumption | exact Acc.refl _ | refine Acc.drew ?_ | refine Acc.drewN ?_ _ | refine Acc.alloc ?_ _ | refine Acc.setCell ?_ ?_ _) | (refine leB ?_; omega)))); clear hb
                  refine hK.out _ _ ?_ (fun hHeld41 => ?_)
                  · (((try dsimp only); (refine ⟨Blk.cell ?_, Blk.cell ?_⟩ <;> (repeat' (first | (with_reducible first | assumption | refine Blk.drew ?_ | refine Blk.drewN ?_ _ | apply Blk.set | (refine Blk.new ?_; focus (first | rfl | (simp; done))) | refine Blk.alloc ?_ _ | refine Blk.other ?_ ?_ _) | exact eqL rfl | (refine neB ?_; omega))))))
                  clear hK K hHeld0
                  (try simp only [Act.put, List.setIfInBounds_toArray, List.set_cons_zero, List.set_cons_succ, List.getElem_toArray, List.getElem_cons_zero, List.getElem_cons_succ])
                  refine wpAnyH_ready (rs := [7]) (by kernel_rfl) (by simp) ?_
                  refine AllReadyH.cons rfl (fun K hK => ?_) AllReadyH.nil
                  go_simp
                  go_at_call 18; refine (specTRow_at C3.out D3.out (show (true && f3) = f3 from rfl) _ _ (by repeat' (first | (with_reducible first | assumption | refine Blk.drew ?_ | refine Blk.drewN ?_ _ | apply Blk.set | (refine Blk.new ?_; focus (first | rfl | (simp; done))) | refine Blk.alloc ?_ _ | refine Blk.other ?_ ?_ _) | exact eqL rfl | (refine neB ?_; omega)))).mono ?_; rintro e W9 ⟨rfl, Bfl, ho⟩; have Ba : Blk W9 (w.heap.size) [.int .i64 m0a, .int .i64 m0b, .int .i64 m0c, .int .i64 m1a, .int .i64 m1b, .int .i64 m1c, .int .i64 m2a, .int .i64 m2b, .int .i64 m2c, .int .i64 m3a, .int .i64 m3b, .int .i64 m3c, .int .i64 m4a, .int .i64 m4b, .int .i64 m4c, .int .i64 m5a, .int .i64 m5b, .int .i64 m5c, .int .i64 m6a, .int .i64 m6b, .int .i64 m6c, .int .i64 m7a, .int .i64 m7b, .int .i64 m7c, .int .i64 m8a, .int .i64 m8b, .int .i64 m8c, .int .i64 m9a, .int .i64 m9b, .int .i64 m9c, .int .i64 m10a, .int .i64 m10b, .int .i64 m10c, .int .i64 m11a, .int .i64 m11b, .int .i64 m11c, .int .i64 m12a, .int .i64 m12b, .int .i64 m12c, .int .i64 m13a, .int .i64 m13b, .int .i64 m13c, .int .i64 m14a, .int .i64 m14b, .int .i64 m14c, .int .i64 m15a, .int .i64 m15b, .int .i64 m15c] := Blk.keepo ho (neB (by omega)) (by repeat' (first | (with_reducible first | assumption | refine Blk.drew ?_ | refine Blk.drewN ?_ _ | apply Blk.set | (refine Blk.new ?_; focus (first | rfl | (simp; done))) | refine Blk.alloc ?_ _ | refine Blk.other ?_ ?_ _) | exact eqL rfl | (refine neB ?_; omega))); have Bb : Blk W9 (w.heap.size + 1) [.int .i64 a1, .int .i64 a2, .int .i64 a3, .int .i64 b1, .int .i64 b2, .int .i64 b3, .int .i64 c1, .int .i64 c2, .int .i64 c3, .int .i64 d1, .int .i64 d2, .int .i64 d3] := Blk.keepo ho (neB (by omega)) (by repeat' (first | (with_reducible first | assumption | refine Blk.drew ?_ | refine Blk.drewN ?_ _ | apply Blk.set | (refine Blk.new ?_; focus (first | rfl | (simp; done))) | refine Blk.alloc ?_ _ | refine Blk.other ?_ ?_ _) | exact eqL rfl | (refine neB ?_; omega))); have Br : Blk W9 (w.heap.size + 1 + 1) [.int .i64 0, .int .i64 0, .int .i64 0, .int .i64 0, .int .i64 0, .int .i64 0, .int .i64 0, .int .i64 0, .int .i64 0, .int .i64 0, .int .i64 0, .int .i64 0] := Blk.keepo ho (neB (by omega)) (by repeat' (first | (with_reducible first | assumption | refine Blk.drew ?_ | refine Blk.drewN ?_ _ | apply Blk.set | (refine Blk.new ?_; focus (first | rfl | (simp; done))) | refine Blk.alloc ?_ _ | refine Blk.other ?_ ?_ _) | exact eqL rfl | (refine neB ?_; omega))); have Bo : Blk W9 (W2.heap.size + 1) [.int .i64 ra1, .int .i64 ra2, .int .i64 ra3, .int .i64 rb1, .int .i64 rb2, .int .i64 rb3, .int .i64 rc1, .int .i64 rc2, .int .i64 rc3, .int .i64 0, .int .i64 0, .int .i64 0] := Blk.keepo ho (neB (by omega)) (by repeat' (first | (with_reducible first | assumption | refine Blk.drew ?_ | refine Blk.drewN ?_ _ | apply Blk.set | (refine Blk.new ?_; focus (first | rfl | (simp; done))) | refine Blk.alloc ?_ _ | refine Blk.other ?_ ?_ _) | exact eqL rfl | (refine neB ?_; omega))); have ca := Ba.cell; have fa := Ba.free; have la_W9 := Ba.lt; have cb := Bb.cell; have fb := Bb.free; have lb_W9 := Bb.lt; have cr := Br.cell; have fr := Br.free; have lr_W9 := Br.lt; have cfl := Bfl.cell; have ffl := Bfl.free; have lfl_W9 := Bfl.lt; have co := Bo.cell; have fo := Bo.free; have lo_W9 := Bo.lt; have kaW9 : Acc w W9 := (by refine Acc.only ?_ (leB (by omega)) ho; (repeat' (first | (with_reducible first | assumption | exact Acc.refl _ | refine Acc.drew ?_ | refine Acc.drewN ?_ _ | refine Acc.alloc ?_ _ | refine Acc.setCell ?_ ?_ _) | (refine leB ?_; omega)))); have lsW9 := ho.size; clear ho
                  refine hK.out _ _ ?_ (fun hHeld42 => ?_)
                  · (((try dsimp only); (refine ⟨Blk.cell ?_, Blk.cell ?_⟩ <;> (repeat' (first | (with_reducible first | assumption | refine Blk.drew ?_ | refine Blk.drewN ?_ _ | apply Blk.set | (refine Blk.new ?_; focus (first | rfl | (simp; done))) | refine Blk.alloc ?_ _ | refine Blk.other ?_ ?_ _) | exact eqL rfl | (refine neB ?_; omega))))))
                  clear hK K hHeld41
                  (try simp only [Act.put, List.setIfInBounds_toArray, List.set_cons_zero, List.set_cons_succ, List.getElem_toArray, List.getElem_cons_zero, List.getElem_cons_succ])
                  refine wpAnyH_take (i := 9) (v := ?v43) rfl (by kernel_rfl) (by kernel_rfl) (by kernel_rfl) (fun _ _ _ h => h) (Or.inl ⟨by rfl, ?y43⟩) (by assumption) ?r43
                  case y43 =>
                    intro w hSw
                    (try dsimp only at hSw)
                    go_simp
                    (try with_reducible rfl)
                  (try simp only [Act.put, List.setIfInBounds_toArray, List.set_cons_zero, List.set_cons_succ, List.getElem_toArray, List.getElem_cons_zero, List.getElem_cons_succ])
                  refine wpAnyH_ready (rs := [10]) (by kernel_rfl) (by simp) ?_
                  refine AllReadyH.cons rfl (fun K hK => ?_) AllReadyH.nil
                  go_simp
                  refine hK.out _ _ ?_ (fun hHeld44 => ?_)
                  · (((try dsimp only); (refine ⟨Blk.cell ?_, Blk.cell ?_⟩ <;> (repeat' (first | (with_reducible first | assumption | refine Blk.drew ?_ | refine Blk.drewN ?_ _ | apply Blk.set | (refine Blk.new ?_; focus (first | rfl | (simp; done))) | refine Blk.alloc ?_ _ | refine Blk.other ?_ ?_ _) | exact eqL rfl | (refine neB ?_; omega))))))
                  clear hK K hHeld42
                  (try simp only [Act.put, List.setIfInBounds_toArray, List.set_cons_zero, List.set_cons_succ, List.getElem_toArray, List.getElem_cons_zero, List.getElem_cons_succ])
                  clear hHeld44
                  refine wpAnyH_done (by kernel_rfl) ?_ _
                  refine fresh_world (fun W' => Blk W' (w.heap.size) [.int .i64 m0a, .int .i64 m0b, .int .i64 m0c, .int .i64 m1a, .int .i64 m1b, .int .i64 m1c, .int .i64 m2a, .int .i64 m2b, .int .i64 m2c, .int .i64 m3a, .int .i64 m3b, .int .i64 m3c, .int .i64 m4a, .int .i64 m4b, .int .i64 m4c, .int .i64 m5a, .int .i64 m5b, .int .i64 m5c, .int .i64 m6a, .int .i64 m6b, .int .i64 m6c, .int .i64 m7a, .int .i64 m7b, .int .i64 m7c, .int .i64 m8a, .int .i64 m8b, .int .i64 m8c, .int .i64 m9a, .int .i64 m9b, .int .i64 m9c, .int .i64 m10a, .int .i64 m10b, .int .i64 m10c, .int .i64 m11a, .int .i64 m11b, .int .i64 m11c, .int .i64 m12a, .int .i64 m12b, .int .i64 m12c, .int .i64 m13a, .int .i64 m13b, .int .i64 m13c, .int .i64 m14a, .int .i64 m14b, .int .i64 m14c, .int .i64 m15a, .int .i64 m15b, .int .i64 m15c] ∧ Blk W' (w.heap.size + 1) [.int .i64 a1, .int .i64 a2, .int .i64 a3, .int .i64 b1, .int .i64 b2, .int .i64 b3, .int .i64 c1, .int .i64 c2, .int .i64 c3, .int .i64 d1, .int .i64 d2, .int .i64 d3] ∧ Blk W' (w.heap.size + 1 + 1) [.int .i64 0, .int .i64 0, .int .i64 0, .int .i64 0, .int .i64 0, .int .i64 0, .int .i64 0, .int .i64 0, .int .i64 0, .int .i64 0, .int .i64 0, .int .i64 0] ∧ Blk W' (W2.heap.size) [.bool f3] ∧ Blk W' (W2.heap.size + 1) [.int .i64 ra1, .int .i64 ra2, .int .i64 ra3, .int .i64 rb1, .int .i64 rb2, .int .i64 rb3, .int .i64 rc1, .int .i64 rc2, .int .i64 rc3, .int .i64 rd1, .int .i64 rd2, .int .i64 rd3] ∧ Acc w W') ?_ ?_
                  · and_intros
                    all_goals
                      first
                        | ((repeat' (first | (with_reducible first | assumption | refine Blk.drew ?_ | refine Blk.drewN ?_ _ | apply Blk.set | (refine Blk.new ?_; focus (first | rfl | (simp; done))) | refine Blk.alloc ?_ _ | refine Blk.other ?_ ?_ _) | exact eqL rfl | (refine neB ?_; omega))); done)
                        | ((show Acc w _); (repeat' (first | (with_reducible first | assumption | exact Acc.refl _ | refine Acc.drew ?_ | refine Acc.drewN ?_ _ | refine Acc.alloc ?_ _ | refine Acc.setCell ?_ ?_ _) | (refine leB ?_; omega))); done)
                  try clear Ba
                  try clear ca
                  try clear fa
                  try clear la_W9
                  try clear Bb
                  try clear cb
                  try clear fb
                  try clear lb_W9
                  try clear Br
                  try clear cr
                  try clear fr
                  try clear lr_W9
                  try clear Bfl
                  try clear cfl
                  try clear ffl
                  try clear lfl_W9
                  try clear Bo
                  try clear co
                  try clear fo
                  try clear lo_W9
                  try clear kaW9
                  rintro wf6 ⟨Ba, Bb, Br, Bfl, Bo, kawf6⟩
                  as_aux_lemma =>
                    have ca := Ba.cell
                    have fa := Ba.free
                    have la_wf6 := Ba.lt
                    have cb := Bb.cell
                    have fb := Bb.free
                    have lb_wf6 := Bb.lt
                    have cr := Br.cell
                    have fr := Br.free
                    have lr_wf6 := Br.lt
                    have cfl := Bfl.cell
                    have ffl := Bfl.free
                    have lfl_wf6 := Bfl.lt
                    have co := Bo.cell
                    have fo := Bo.free
                    have lo_wf6 := Bo.lt
                    cases f3 with
                    | false =>
                      obtain rfl : o = none := HE.out.symm.trans ((appTb_at V0.out (show rl4 ((a1, a2, a3), (b1, b2, b3), (c1, c2, c3), (d1, d2, d3)) = true from V1.out)).trans (show quadO (rowT ((m0a, m0b, m0c), (m1a, m1b, m1c), (m2a, m2b, m2c), (m3a, m3b, m3c)) ((a1, a2, a3), (b1, b2, b3), (c1, c2, c3), (d1, d2, d3))) (rowT ((m4a, m4b, m4c), (m5a, m5b, m5c), (m6a, m6b, m6c), (m7a, m7b, m7c)) ((a1, a2, a3), (b1, b2, b3), (c1, c2, c3), (d1, d2, d3))) (rowT ((m8a, m8b, m8c), (m9a, m9b, m9c), (m10a, m10b, m10c), (m11a, m11b, m11c)) ((a1, a2, a3), (b1, b2, b3), (c1, c2, c3), (d1, d2, d3))) (rowT ((m12a, m12b, m12c), (m13a, m13b, m13c), (m14a, m14b, m14c), (m15a, m15b, m15c)) ((a1, a2, a3), (b1, b2, b3), (c1, c2, c3), (d1, d2, d3))) = none by rw [show rowT ((m12a, m12b, m12c), (m13a, m13b, m13c), (m14a, m14b, m14c), (m15a, m15b, m15c)) ((a1, a2, a3), (b1, b2, b3), (c1, c2, c3), (d1, d2, d3)) = none from (rowT_at C3.out D3.out).trans (if_neg (by decide))]; exact quad_n4 _ _ _))
                      go_wp2_with fail
                      rw [rounds_succ]
                      go_wp2_with (refine wpList_store_mid rfl 33 (.tmp 4) (.tmp 43) rfl (w.heap.size + 1 + 1) 0 #[.int .i64 0, .int .i64 0, .int .i64 0, .int .i64 0, .int .i64 0, .int .i64 0, .int .i64 0, .int .i64 0, .int .i64 0, .int .i64 0, .int .i64 0, .int .i64 0] rfl rfl ?ht ?hi ?ho ?_)
                      case ht =>
                        refine there_of (vs := [.int .i64 0, .int .i64 0, .int .i64 0, .int .i64 0, .int .i64 0, .int .i64 0, .int .i64 0, .int .i64 0, .int .i64 0, .int .i64 0, .int .i64 0, .int .i64 0]) ?_ rfl
                        (repeat' (first | (with_reducible first | assumption | refine Blk.drew ?_ | refine Blk.drewN ?_ _ | apply Blk.set | (refine Blk.new ?_; focus (first | rfl | (simp; done))) | refine Blk.alloc ?_ _ | refine Blk.other ?_ ?_ _) | exact eqL rfl | (refine neB ?_; omega)))
                      case hi => first | exact HS.out | simpa using HS.out
                      case ho => first | exact oneInts [0, 0, 0, 0, 0, 0, 0, 0, 0, 0, 0, 0] | (and_intros <;> rfl)
                      refine fresh_world (fun W' => Blk W' (w.heap.size + 1 + 1) [.int .i64 0, .int .i64 0, .int .i64 0, .int .i64 0, .int .i64 0, .int .i64 0, .int .i64 0, .int .i64 0, .int .i64 0, .int .i64 0, .int .i64 0, .int .i64 0] ∧ Acc w W') ?_ ?_
                      · and_intros
                        · refine Blk.setCells (vs := [.int .i64 0, .int .i64 0, .int .i64 0, .int .i64 0, .int .i64 0, .int .i64 0, .int .i64 0, .int .i64 0, .int .i64 0, .int .i64 0, .int .i64 0, .int .i64 0]) ?_ rfl
                          (repeat' (first | (with_reducible first | assumption | refine Blk.drew ?_ | refine Blk.drewN ?_ _ | apply Blk.set | (refine Blk.new ?_; focus (first | rfl | (simp; done))) | refine Blk.alloc ?_ _ | refine Blk.other ?_ ?_ _) | exact eqL rfl | (refine neB ?_; omega)))
                        · refine Acc.setCells (leB (by omega)) _ _ _ ?_
                          (repeat' (first | (with_reducible first | assumption | exact Acc.refl _ | refine Acc.drew ?_ | refine Acc.drewN ?_ _ | refine Acc.alloc ?_ _ | refine Acc.setCell ?_ ?_ _) | (refine leB ?_; omega)))
                      rintro we ⟨Bz, kae⟩
                      have cz := Bz.cell
                      refine bodyPost_ret (v := .tuple #[.agg #[.int .i64 0, .int .i64 0, .int .i64 0, .int .i64 0, .int .i64 0, .int .i64 0, .int .i64 0, .int .i64 0, .int .i64 0, .int .i64 0, .int .i64 0, .int .i64 0], .bool false]) (by simp [results, Tryd.results6, go_sem, *]) rfl ⟨fun _ _ _ _ _ _ _ _ _ _ _ _ h => (by cases h), fun _ => rfl, ?_⟩
                      show Acc w _
                      (repeat' (first | (with_reducible first | assumption | exact Acc.refl _ | refine Acc.drew ?_ | refine Acc.drewN ?_ _ | refine Acc.alloc ?_ _ | refine Acc.setCell ?_ ?_ _) | (refine leB ?_; omega)))
                    | true =>
                      go_wp2_with fail
                      rw [rounds_succ]
                      obtain rfl : o = some ((ra1, ra2, ra3), (rb1, rb2, rb3), (rc1, rc2, rc3), (rd1, rd2, rd3)) := HE.out.symm.trans ((appTb_at V0.out (show rl4 ((a1, a2, a3), (b1, b2, b3), (c1, c2, c3), (d1, d2, d3)) = true from V1.out)).trans (show quadO (rowT ((m0a, m0b, m0c), (m1a, m1b, m1c), (m2a, m2b, m2c), (m3a, m3b, m3c)) ((a1, a2, a3), (b1, b2, b3), (c1, c2, c3), (d1, d2, d3))) (rowT ((m4a, m4b, m4c), (m5a, m5b, m5c), (m6a, m6b, m6c), (m7a, m7b, m7c)) ((a1, a2, a3), (b1, b2, b3), (c1, c2, c3), (d1, d2, d3))) (rowT ((m8a, m8b, m8c), (m9a, m9b, m9c), (m10a, m10b, m10c), (m11a, m11b, m11c)) ((a1, a2, a3), (b1, b2, b3), (c1, c2, c3), (d1, d2, d3))) (rowT ((m12a, m12b, m12c), (m13a, m13b, m13c), (m14a, m14b, m14c), (m15a, m15b, m15c)) ((a1, a2, a3), (b1, b2, b3), (c1, c2, c3), (d1, d2, d3))) = _ from quad_of ((rowT_at C0.out D0.out).trans (if_pos rfl)) ((rowT_at C1.out D1.out).trans (if_pos rfl)) ((rowT_at C2.out D2.out).trans (if_pos rfl)) ((rowT_at C3.out D3.out).trans (if_pos rfl))))
                      go_wp2_with (first | (refine wpList_load_mid rfl 33 _ rfl (W2.heap.size + 1) 0 rfl [.int .i64 ra1, .int .i64 ra2, .int .i64 ra3, .int .i64 rb1, .int .i64 rb2, .int .i64 rb3, .int .i64 rc1, .int .i64 rc2, .int .i64 rc3, .int .i64 rd1, .int .i64 rd2, .int .i64 rd3] _ ?hcz Tryd.underlying33 rfl HS.out ?_) | (refine wpList_store_mid rfl 33 (.tmp 4) (.tmp 44) rfl (w.heap.size + 1 + 1) 0 #[.int .i64 ra1, .int .i64 ra2, .int .i64 ra3, .int .i64 rb1, .int .i64 rb2, .int .i64 rb3, .int .i64 rc1, .int .i64 rc2, .int .i64 rc3, .int .i64 rd1, .int .i64 rd2, .int .i64 rd3] rfl rfl ?ht ?hi ?ho ?_))
                      case hcz =>
                        refine range_of (Blk.cell ?_)
                        (repeat' (first | (with_reducible first | assumption | refine Blk.drew ?_ | refine Blk.drewN ?_ _ | apply Blk.set | (refine Blk.new ?_; focus (first | rfl | (simp; done))) | refine Blk.alloc ?_ _ | refine Blk.other ?_ ?_ _) | exact eqL rfl | (refine neB ?_; omega)))
                      case ht =>
                        refine there_of (vs := [.int .i64 0, .int .i64 0, .int .i64 0, .int .i64 0, .int .i64 0, .int .i64 0, .int .i64 0, .int .i64 0, .int .i64 0, .int .i64 0, .int .i64 0, .int .i64 0]) ?_ rfl
                        (repeat' (first | (with_reducible first | assumption | refine Blk.drew ?_ | refine Blk.drewN ?_ _ | apply Blk.set | (refine Blk.new ?_; focus (first | rfl | (simp; done))) | refine Blk.alloc ?_ _ | refine Blk.other ?_ ?_ _) | exact eqL rfl | (refine neB ?_; omega)))
                      case hi => first | exact HS.out | simpa using HS.out
                      case ho => first | exact oneInts [ra1, ra2, ra3, rb1, rb2, rb3, rc1, rc2, rc3, rd1, rd2, rd3] | (and_intros <;> rfl)
                      refine fresh_world (fun W' => Blk W' (w.heap.size + 1 + 1) [.int .i64 ra1, .int .i64 ra2, .int .i64 ra3, .int .i64 rb1, .int .i64 rb2, .int .i64 rb3, .int .i64 rc1, .int .i64 rc2, .int .i64 rc3, .int .i64 rd1, .int .i64 rd2, .int .i64 rd3] ∧ Acc w W') ?_ ?_
                      · and_intros
                        · refine Blk.setCells (vs := [.int .i64 0, .int .i64 0, .int .i64 0, .int .i64 0, .int .i64 0, .int .i64 0, .int .i64 0, .int .i64 0, .int .i64 0, .int .i64 0, .int .i64 0, .int .i64 0]) ?_ rfl
                          (repeat' (first | (with_reducible first | assumption | refine Blk.drew ?_ | refine Blk.drewN ?_ _ | apply Blk.set | (refine Blk.new ?_; focus (first | rfl | (simp; done))) | refine Blk.alloc ?_ _ | refine Blk.other ?_ ?_ _) | exact eqL rfl | (refine neB ?_; omega)))
                        · refine Acc.setCells (leB (by omega)) _ _ _ ?_
                          (repeat' (first | (with_reducible first | assumption | exact Acc.refl _ | refine Acc.drew ?_ | refine Acc.drewN ?_ _ | refine Acc.alloc ?_ _ | refine Acc.setCell ?_ ?_ _) | (refine leB ?_; omega)))
                      rintro we ⟨Bz, kae⟩
                      have cz := Bz.cell
                      refine bodyPost_ret (v := .tuple #[.agg #[.int .i64 ra1, .int .i64 ra2, .int .i64 ra3, .int .i64 rb1, .int .i64 rb2, .int .i64 rb3, .int .i64 rc1, .int .i64 rc2, .int .i64 rc3, .int .i64 rd1, .int .i64 rd2, .int .i64 rd3], .bool true]) (by simp [results, Tryd.results6, go_sem, *]) rfl ⟨fun _ _ _ _ _ _ _ _ _ _ _ _ h => (by cases h; rfl), fun h => (by cases h), ?_⟩
                      show Acc w _
                      (repeat' (first | (with_reducible first | assumption | exact Acc.refl _ | refine Acc.drew ?_ | refine Acc.drewN ?_ _ | refine Acc.alloc ?_ _ | refine Acc.setCell ?_ ?_ _) | (refine leB ?_; omega)))
end Go.Proofs.YtgmpbdndkjnbfaaDoor
