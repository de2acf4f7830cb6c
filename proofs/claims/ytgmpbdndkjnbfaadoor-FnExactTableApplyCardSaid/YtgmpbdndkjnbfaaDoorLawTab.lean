/-
  What the exact laws do with tables: the copy.
-/
import Derived.Test.YtgmpbdndkjnbfaaDoorLawStokes
import Derived.Test.YtgmpbdndkjnbfaaDoorRow
import Derived.Test.YtgmpbdndkjnbfaaDoorFlag
import Derived.Test.YtgmpbdndkjnbfaaDoorBTabA
namespace Go.Proofs.YtgmpbdndkjnbfaaDoor
open Go.ChangeShapes Go.WideShapes Go.ChangeAt Go.RowKit
set_option linter.unusedVariables false

set_option maxRecDepth 100000 in
set_option maxHeartbeats 40000000 in
theorem toFracA16_any (m0a m0b m0c m1a m1b m1c m2a m2b m2c m3a m3b m3c m4a m4b m4c m5a m5b m5c m6a m6b m6c m7a m7b m7c m8a m8b m8c m9a m9b m9c m10a m10b m10c m11a m11b m11c m12a m12b m12c m13a m13b m13c m14a m14b m14c m15a m15b m15c : Int) (w : World) :
    Calls Tryd.prog 20 #[.agg #[.int .i64 m0a, .int .i64 m0b, .int .i64 m0c, .int .i64 m1a, .int .i64 m1b, .int .i64 m1c, .int .i64 m2a, .int .i64 m2b, .int .i64 m2c, .int .i64 m3a, .int .i64 m3b, .int .i64 m3c, .int .i64 m4a, .int .i64 m4b, .int .i64 m4c, .int .i64 m5a, .int .i64 m5b, .int .i64 m5c, .int .i64 m6a, .int .i64 m6b, .int .i64 m6c, .int .i64 m7a, .int .i64 m7b, .int .i64 m7c, .int .i64 m8a, .int .i64 m8b, .int .i64 m8c, .int .i64 m9a, .int .i64 m9b, .int .i64 m9c, .int .i64 m10a, .int .i64 m10b, .int .i64 m10c, .int .i64 m11a, .int .i64 m11b, .int .i64 m11c, .int .i64 m12a, .int .i64 m12b, .int .i64 m12c, .int .i64 m13a, .int .i64 m13b, .int .i64 m13c, .int .i64 m14a, .int .i64 m14b, .int .i64 m14c, .int .i64 m15a, .int .i64 m15b, .int .i64 m15c]] w fun e w' => e = .returned (.agg #[.int .i64 m0a, .int .i64 m0b, .int .i64 m0c, .int .i64 m1a, .int .i64 m1b, .int .i64 m1c, .int .i64 m2a, .int .i64 m2b, .int .i64 m2c, .int .i64 m3a, .int .i64 m3b, .int .i64 m3c, .int .i64 m4a, .int .i64 m4b, .int .i64 m4c, .int .i64 m5a, .int .i64 m5b, .int .i64 m5c, .int .i64 m6a, .int .i64 m6b, .int .i64 m6c, .int .i64 m7a, .int .i64 m7b, .int .i64 m7c, .int .i64 m8a, .int .i64 m8b, .int .i64 m8c, .int .i64 m9a, .int .i64 m9b, .int .i64 m9c, .int .i64 m10a, .int .i64 m10b, .int .i64 m10c, .int .i64 m11a, .int .i64 m11b, .int .i64 m11c, .int .i64 m12a, .int .i64 m12b, .int .i64 m12c, .int .i64 m13a, .int .i64 m13b, .int .i64 m13c, .int .i64 m14a, .int .i64 m14b, .int .i64 m14c, .int .i64 m15a, .int .i64 m15b, .int .i64 m15c]) ∧ Below w.heap.size w w' := by
  have HI1 : RowKit.Hid ((Tryd.prog.info? 36).map (·.size) = some 48) := Lib.hid (by kernel_rfl)
  go_enter Tryd.func20, Tryd.ntmps20
  go_wp2_with fail
  refine wp_loop_rounds 17 ?_
  rw [rounds_succ]
  go_wp2_with fail
  refine (toFrac_any m0a m0b m0c _).mono ?_
  rintro e W1 ⟨rfl, hb⟩
  have Ba : Blk W1 (w.heap.size) [.int .i64 m0a, .int .i64 m0b, .int .i64 m0c, .int .i64 m1a, .int .i64 m1b, .int .i64 m1c, .int .i64 m2a, .int .i64 m2b, .int .i64 m2c, .int .i64 m3a, .int .i64 m3b, .int .i64 m3c, .int .i64 m4a, .int .i64 m4b, .int .i64 m4c, .int .i64 m5a, .int .i64 m5b, .int .i64 m5c, .int .i64 m6a, .int .i64 m6b, .int .i64 m6c, .int .i64 m7a, .int .i64 m7b, .int .i64 m7c, .int .i64 m8a, .int .i64 m8b, .int .i64 m8c, .int .i64 m9a, .int .i64 m9b, .int .i64 m9c, .int .i64 m10a, .int .i64 m10b, .int .i64 m10c, .int .i64 m11a, .int .i64 m11b, .int .i64 m11c, .int .i64 m12a, .int .i64 m12b, .int .i64 m12c, .int .i64 m13a, .int .i64 m13b, .int .i64 m13c, .int .i64 m14a, .int .i64 m14b, .int .i64 m14c, .int .i64 m15a, .int .i64 m15b, .int .i64 m15c] := Blk.keep hb (by repeat' (first | (with_reducible first | assumption | refine Blk.drew ?_ | refine Blk.drewN ?_ _ | apply Blk.set | (refine Blk.new ?_; focus (first | rfl | (simp; done))) | refine Blk.alloc ?_ _ | refine Blk.other ?_ ?_ _) | exact eqL rfl | (refine neB ?_; omega)))
  have Br : Blk W1 (w.heap.size + 1) [.int .i64 0, .int .i64 0, .int .i64 0, .int .i64 0, .int .i64 0, .int .i64 0, .int .i64 0, .int .i64 0, .int .i64 0, .int .i64 0, .int .i64 0, .int .i64 0, .int .i64 0, .int .i64 0, .int .i64 0, .int .i64 0, .int .i64 0, .int .i64 0, .int .i64 0, .int .i64 0, .int .i64 0, .int .i64 0, .int .i64 0, .int .i64 0, .int .i64 0, .int .i64 0, .int .i64 0, .int .i64 0, .int .i64 0, .int .i64 0, .int .i64 0, .int .i64 0, .int .i64 0, .int .i64 0, .int .i64 0, .int .i64 0, .int .i64 0, .int .i64 0, .int .i64 0, .int .i64 0, .int .i64 0, .int .i64 0, .int .i64 0, .int .i64 0, .int .i64 0, .int .i64 0, .int .i64 0, .int .i64 0] := Blk.keep hb (by repeat' (first | (with_reducible first | assumption | refine Blk.drew ?_ | refine Blk.drewN ?_ _ | apply Blk.set | (refine Blk.new ?_; focus (first | rfl | (simp; done))) | refine Blk.alloc ?_ _ | refine Blk.other ?_ ?_ _) | exact eqL rfl | (refine neB ?_; omega)))
  have Bo : Blk W1 (w.heap.size + 1 + 1) [.int .i64 0, .int .i64 0, .int .i64 0, .int .i64 0, .int .i64 0, .int .i64 0, .int .i64 0, .int .i64 0, .int .i64 0, .int .i64 0, .int .i64 0, .int .i64 0, .int .i64 0, .int .i64 0, .int .i64 0, .int .i64 0, .int .i64 0, .int .i64 0, .int .i64 0, .int .i64 0, .int .i64 0, .int .i64 0, .int .i64 0, .int .i64 0, .int .i64 0, .int .i64 0, .int .i64 0, .int .i64 0, .int .i64 0, .int .i64 0, .int .i64 0, .int .i64 0, .int .i64 0, .int .i64 0, .int .i64 0, .int .i64 0, .int .i64 0, .int .i64 0, .int .i64 0, .int .i64 0, .int .i64 0, .int .i64 0, .int .i64 0, .int .i64 0, .int .i64 0, .int .i64 0, .int .i64 0, .int .i64 0] := Blk.keep hb (by repeat' (first | (with_reducible first | assumption | refine Blk.drew ?_ | refine Blk.drewN ?_ _ | apply Blk.set | (refine Blk.new ?_; focus (first | rfl | (simp; done))) | refine Blk.alloc ?_ _ | refine Blk.other ?_ ?_ _) | exact eqL rfl | (refine neB ?_; omega)))
  have ca := Ba.cell
  have fa := Ba.free
  have la_W1 := Ba.lt
  have cr := Br.cell
  have fr := Br.free
  have lr_W1 := Br.lt
  have co := Bo.cell
  have fo := Bo.free
  have lo_W1 := Bo.lt
  have kaW1 : Acc w W1 := by
    refine Acc.call ?_ hb
    (repeat' (first | (with_reducible first | assumption | exact Acc.refl _ | refine Acc.drew ?_ | refine Acc.drewN ?_ _ | refine Acc.alloc ?_ _ | refine Acc.setCell ?_ ?_ _) | (refine leB ?_; omega)))
  clear hb
  go_wp2_with fail
  rw [rounds_succ]
  go_wp2_with fail
  refine (toFrac_any m1a m1b m1c _).mono ?_
  rintro e W2 ⟨rfl, hb⟩
  have Ba : Blk W2 (w.heap.size) [.int .i64 m0a, .int .i64 m0b, .int .i64 m0c, .int .i64 m1a, .int .i64 m1b, .int .i64 m1c, .int .i64 m2a, .int .i64 m2b, .int .i64 m2c, .int .i64 m3a, .int .i64 m3b, .int .i64 m3c, .int .i64 m4a, .int .i64 m4b, .int .i64 m4c, .int .i64 m5a, .int .i64 m5b, .int .i64 m5c, .int .i64 m6a, .int .i64 m6b, .int .i64 m6c, .int .i64 m7a, .int .i64 m7b, .int .i64 m7c, .int .i64 m8a, .int .i64 m8b, .int .i64 m8c, .int .i64 m9a, .int .i64 m9b, .int .i64 m9c, .int .i64 m10a, .int .i64 m10b, .int .i64 m10c, .int .i64 m11a, .int .i64 m11b, .int .i64 m11c, .int .i64 m12a, .int .i64 m12b, .int .i64 m12c, .int .i64 m13a, .int .i64 m13b, .int .i64 m13c, .int .i64 m14a, .int .i64 m14b, .int .i64 m14c, .int .i64 m15a, .int .i64 m15b, .int .i64 m15c] := Blk.keep hb (by repeat' (first | (with_reducible first | assumption | refine Blk.drew ?_ | refine Blk.drewN ?_ _ | apply Blk.set | (refine Blk.new ?_; focus (first | rfl | (simp; done))) | refine Blk.alloc ?_ _ | refine Blk.other ?_ ?_ _) | exact eqL rfl | (refine neB ?_; omega)))
  have Br : Blk W2 (w.heap.size + 1) [.int .i64 0, .int .i64 0, .int .i64 0, .int .i64 0, .int .i64 0, .int .i64 0, .int .i64 0, .int .i64 0, .int .i64 0, .int .i64 0, .int .i64 0, .int .i64 0, .int .i64 0, .int .i64 0, .int .i64 0, .int .i64 0, .int .i64 0, .int .i64 0, .int .i64 0, .int .i64 0, .int .i64 0, .int .i64 0, .int .i64 0, .int .i64 0, .int .i64 0, .int .i64 0, .int .i64 0, .int .i64 0, .int .i64 0, .int .i64 0, .int .i64 0, .int .i64 0, .int .i64 0, .int .i64 0, .int .i64 0, .int .i64 0, .int .i64 0, .int .i64 0, .int .i64 0, .int .i64 0, .int .i64 0, .int .i64 0, .int .i64 0, .int .i64 0, .int .i64 0, .int .i64 0, .int .i64 0, .int .i64 0] := Blk.keep hb (by repeat' (first | (with_reducible first | assumption | refine Blk.drew ?_ | refine Blk.drewN ?_ _ | apply Blk.set | (refine Blk.new ?_; focus (first | rfl | (simp; done))) | refine Blk.alloc ?_ _ | refine Blk.other ?_ ?_ _) | exact eqL rfl | (refine neB ?_; omega)))
  have Bo : Blk W2 (w.heap.size + 1 + 1) [.int .i64 m0a, .int .i64 m0b, .int .i64 m0c, .int .i64 0, .int .i64 0, .int .i64 0, .int .i64 0, .int .i64 0, .int .i64 0, .int .i64 0, .int .i64 0, .int .i64 0, .int .i64 0, .int .i64 0, .int .i64 0, .int .i64 0, .int .i64 0, .int .i64 0, .int .i64 0, .int .i64 0, .int .i64 0, .int .i64 0, .int .i64 0, .int .i64 0, .int .i64 0, .int .i64 0, .int .i64 0, .int .i64 0, .int .i64 0, .int .i64 0, .int .i64 0, .int .i64 0, .int .i64 0, .int .i64 0, .int .i64 0, .int .i64 0, .int .i64 0, .int .i64 0, .int .i64 0, .int .i64 0, .int .i64 0, .int .i64 0, .int .i64 0, .int .i64 0, .int .i64 0, .int .i64 0, .int .i64 0, .int .i64 0] := Blk.keep hb (by repeat' (first | (with_reducible first | assumption | refine Blk.drew ?_ | refine Blk.drewN ?_ _ | apply Blk.set | (refine Blk.new ?_; focus (first | rfl | (simp; done))) | refine Blk.alloc ?_ _ | refine Blk.other ?_ ?_ _) | exact eqL rfl | (refine neB ?_; omega)))
  have ca := Ba.cell
  have fa := Ba.free
  have la_W2 := Ba.lt
  have cr := Br.cell
  have fr := Br.free
  have lr_W2 := Br.lt
  have co := Bo.cell
  have fo := Bo.free
  have lo_W2 := Bo.lt
  have kaW2 : Acc w W2 := by
    refine Acc.call ?_ hb
    (repeat' (first | (with_reducible first | assumption | exact Acc.refl _ | refine Acc.drew ?_ | refine Acc.drewN ?_ _ | refine Acc.alloc ?_ _ | refine Acc.setCell ?_ ?_ _) | (refine leB ?_; omega)))
  clear hb
  go_wp2_with fail
  rw [rounds_succ]
  go_wp2_with fail
  refine (toFrac_any m2a m2b m2c _).mono ?_
  rintro e W3 ⟨rfl, hb⟩
  have Ba : Blk W3 (w.heap.size) [.int .i64 m0a, .int .i64 m0b, .int .i64 m0c, .int .i64 m1a, .int .i64 m1b, .int .i64 m1c, .int .i64 m2a, .int .i64 m2b, .int .i64 m2c, .int .i64 m3a, .int .i64 m3b, .int .i64 m3c, .int .i64 m4a, .int .i64 m4b, .int .i64 m4c, .int .i64 m5a, .int .i64 m5b, .int .i64 m5c, .int .i64 m6a, .int .i64 m6b, .int .i64 m6c, .int .i64 m7a, .int .i64 m7b, .int .i64 m7c, .int .i64 m8a, .int .i64 m8b, .int .i64 m8c, .int .i64 m9a, .int .i64 m9b, .int .i64 m9c, .int .i64 m10a, .int .i64 m10b, .int .i64 m10c, .int .i64 m11a, .int .i64 m11b, .int .i64 m11c, .int .i64 m12a, .int .i64 m12b, .int .i64 m12c, .int .i64 m13a, .int .i64 m13b, .int .i64 m13c, .int .i64 m14a, .int .i64 m14b, .int .i64 m14c, .int .i64 m15a, .int .i64 m15b, .int .i64 m15c] := Blk.keep hb (by repeat' (first | (with_reducible first | assumption | refine Blk.drew ?_ | refine Blk.drewN ?_ _ | apply Blk.set | (refine Blk.new ?_; focus (first | rfl | (simp; done))) | refine Blk.alloc ?_ _ | refine Blk.other ?_ ?_ _) | exact eqL rfl | (refine neB ?_; omega)))
  have Br : Blk W3 (w.heap.size + 1) [.int .i64 0, .int .i64 0, .int .i64 0, .int .i64 0, .int .i64 0, .int .i64 0, .int .i64 0, .int .i64 0, .int .i64 0, .int .i64 0, .int .i64 0, .int .i64 0, .int .i64 0, .int .i64 0, .int .i64 0, .int .i64 0, .int .i64 0, .int .i64 0, .int .i64 0, .int .i64 0, .int .i64 0, .int .i64 0, .int .i64 0, .int .i64 0, .int .i64 0, .int .i64 0, .int .i64 0, .int .i64 0, .int .i64 0, .int .i64 0, .int .i64 0, .int .i64 0, .int .i64 0, .int .i64 0, .int .i64 0, .int .i64 0, .int .i64 0, .int .i64 0, .int .i64 0, .int .i64 0, .int .i64 0, .int .i64 0, .int .i64 0, .int .i64 0, .int .i64 0, .int .i64 0, .int .i64 0, .int .i64 0] := Blk.keep hb (by repeat' (first | (with_reducible first | assumption | refine Blk.drew ?_ | refine Blk.drewN ?_ _ | apply Blk.set | (refine Blk.new ?_; focus (first | rfl | (simp; done))) | refine Blk.alloc ?_ _ | refine Blk.other ?_ ?_ _) | exact eqL rfl | (refine neB ?_; omega)))
  have Bo : Blk W3 (w.heap.size + 1 + 1) [.int .i64 m0a, .int .i64 m0b, .int .i64 m0c, .int .i64 m1a, .int .i64 m1b, .int .i64 m1c, .int .i64 0, .int .i64 0, .int .i64 0, .int .i64 0, .int .i64 0, .int .i64 0, .int .i64 0, .int .i64 0, .int .i64 0, .int .i64 0, .int .i64 0, .int .i64 0, .int .i64 0, .int .i64 0, .int .i64 0, .int .i64 0, .int .i64 0, .int .i64 0, .int .i64 0, .int .i64 0, .int .i64 0, .int .i64 0, .int .i64 0, .int .i64 0, .int .i64 0, .int .i64 0, .int .i64 0, .int .i64 0, .int .i64 0, .int .i64 0, .int .i64 0, .int .i64 0, .int .i64 0, .int .i64 0, .int .i64 0, .int .i64 0, .int .i64 0, .int .i64 0, .int .i64 0, .int .i64 0, .int .i64 0, .int .i64 0] := Blk.keep hb (by repeat' (first | (with_reducible first | assumption | refine Blk.drew ?_ | refine Blk.drewN ?_ _ | apply Blk.set | (refine Blk.new ?_; focus (first | rfl | (simp; done))) | refine Blk.alloc ?_ _ | refine Blk.other ?_ ?_ _) | exact eqL rfl | (refine neB ?_; omega)))
  have ca := Ba.cell
  have fa := Ba.free
  have la_W3 := Ba.lt
  have cr := Br.cell
  have fr := Br.free
  have lr_W3 := Br.lt
  have co := Bo.cell
  have fo := Bo.free
  have lo_W3 := Bo.lt
  have kaW3 : Acc w W3 := by
    refine Acc.call ?_ hb
    (repeat' (first | (with_reducible first | assumption | exact Acc.refl _ | refine Acc.drew ?_ | refine Acc.drewN ?_ _ | refine Acc.alloc ?_ _ | refine Acc.setCell ?_ ?_ _) | (refine leB ?_; omega)))
  clear hb
  go_wp2_with fail
  rw [rounds_succ]
  go_wp2_with fail
  refine (toFrac_any m3a m3b m3c _).mono ?_
  rintro e W4 ⟨rfl, hb⟩
  have Ba : Blk W4 (w.heap.size) [.int .i64 m0a, .int .i64 m0b, .int .i64 m0c, .int .i64 m1a, .int .i64 m1b, .int .i64 m1c, .int .i64 m2a, .int .i64 m2b, .int .i64 m2c, .int .i64 m3a, .int .i64 m3b, .int .i64 m3c, .int .i64 m4a, .int .i64 m4b, .int .i64 m4c, .int .i64 m5a, .int .i64 m5b, .int .i64 m5c, .int .i64 m6a, .int .i64 m6b, .int .i64 m6c, .int .i64 m7a, .int .i64 m7b, .int .i64 m7c, .int .i64 m8a, .int .i64 m8b, .int .i64 m8c, .int .i64 m9a, .int .i64 m9b, .int .i64 m9c, .int .i64 m10a, .int .i64 m10b, .int .i64 m10c, .int .i64 m11a, .int .i64 m11b, .int .i64 m11c, .int .i64 m12a, .int .i64 m12b, .int .i64 m12c, .int .i64 m13a, .int .i64 m13b, .int .i64 m13c, .int .i64 m14a, .int .i64 m14b, .int .i64 m14c, .int .i64 m15a, .int .i64 m15b, .int .i64 m15c] := Blk.keep hb (by repeat' (first | (with_reducible first | assumption | refine Blk.drew ?_ | refine Blk.drewN ?_ _ | apply Blk.set | (refine Blk.new ?_; focus (first | rfl | (simp; done))) | refine Blk.alloc ?_ _ | refine Blk.other ?_ ?_ _) | exact eqL rfl | (refine neB ?_; omega)))
  have Br : Blk W4 (w.heap.size + 1) [.int .i64 0, .int .i64 0, .int .i64 0, .int .i64 0, .int .i64 0, .int .i64 0, .int .i64 0, .int .i64 0, .int .i64 0, .int .i64 0, .int .i64 0, .int .i64 0, .int .i64 0, .int .i64 0, .int .i64 0, .int .i64 0, .int .i64 0, .int .i64 0, .int .i64 0, .int .i64 0, .int .i64 0, .int .i64 0, .int .i64 0, .int .i64 0, .int .i64 0, .int .i64 0, .int .i64 0, .int .i64 0, .int .i64 0, .int .i64 0, .int .i64 0, .int .i64 0, .int .i64 0, .int .i64 0, .int .i64 0, .int .i64 0, .int .i64 0, .int .i64 0, .int .i64 0, .int .i64 0, .int .i64 0, .int .i64 0, .int .i64 0, .int .i64 0, .int .i64 0, .int .i64 0, .int .i64 0, .int .i64 0] := Blk.keep hb (by repeat' (first | (with_reducible first | assumption | refine Blk.drew ?_ | refine Blk.drewN ?_ _ | apply Blk.set | (refine Blk.new ?_; focus (first | rfl | (simp; done))) | refine Blk.alloc ?_ _ | refine Blk.other ?_ ?_ _) | exact eqL rfl | (refine neB ?_; omega)))
  have Bo : Blk W4 (w.heap.size + 1 + 1) [.int .i64 m0a, .int .i64 m0b, .int .i64 m0c, .int .i64 m1a, .int .i64 m1b, .int .i64 m1c, .int .i64 m2a, .int .i64 m2b, .int .i64 m2c, .int .i64 0, .int .i64 0, .int .i64 0, .int .i64 0, .int .i64 0, .int .i64 0, .int .i64 0, .int .i64 0, .int .i64 0, .int .i64 0, .int .i64 0, .int .i64 0, .int .i64 0, .int .i64 0, .int .i64 0, .int .i64 0, .int .i64 0, .int .i64 0, .int .i64 0, .int .i64 0, .int .i64 0, .int .i64 0, .int .i64 0, .int .i64 0, .int .i64 0, .int .i64 0, .int .i64 0, .int .i64 0, .int .i64 0, .int .i64 0, .int .i64 0, .int .i64 0, .int .i64 0, .int .i64 0, .int .i64 0, .int .i64 0, .int .i64 0, .int .i64 0, .int .i64 0] := Blk.keep hb (by repeat' (first | (with_reducible first | assumption | refine Blk.drew ?_ | refine Blk.drewN ?_ _ | apply Blk.set | (refine Blk.new ?_; focus (first | rfl | (simp; done))) | refine Blk.alloc ?_ _ | refine Blk.other ?_ ?_ _) | exact eqL rfl | (refine neB ?_; omega)))
  have ca := Ba.cell
  have fa := Ba.free
  have la_W4 := Ba.lt
  have cr := Br.cell
  have fr := Br.free
  have lr_W4 := Br.lt
  have co := Bo.cell
  have fo := Bo.free
  have lo_W4 := Bo.lt
  have kaW4 : Acc w W4 := by
    refine Acc.call ?_ hb
    (repeat' (first | (with_reducible first | assumption | exact Acc.refl _ | refine Acc.drew ?_ | refine Acc.drewN ?_ _ | refine Acc.alloc ?_ _ | refine Acc.setCell ?_ ?_ _) | (refine leB ?_; omega)))
  clear hb
  go_wp2_with fail
  rw [rounds_succ]
  go_wp2_with fail
  refine (toFrac_any m4a m4b m4c _).mono ?_
  rintro e W5 ⟨rfl, hb⟩
  have Ba : Blk W5 (w.heap.size) [.int .i64 m0a, .int .i64 m0b, .int .i64 m0c, .int .i64 m1a, .int .i64 m1b, .int .i64 m1c, .int .i64 m2a, .int .i64 m2b, .int .i64 m2c, .int .i64 m3a, .int .i64 m3b, .int .i64 m3c, .int .i64 m4a, .int .i64 m4b, .int .i64 m4c, .int .i64 m5a, .int .i64 m5b, .int .i64 m5c, .int .i64 m6a, .int .i64 m6b, .int .i64 m6c, .int .i64 m7a, .int .i64 m7b, .int .i64 m7c, .int .i64 m8a, .int .i64 m8b, .int .i64 m8c, .int .i64 m9a, .int .i64 m9b, .int .i64 m9c, .int .i64 m10a, .int .i64 m10b, .int .i64 m10c, .int .i64 m11a, .int .i64 m11b, .int .i64 m11c, .int .i64 m12a, .int .i64 m12b, .int .i64 m12c, .int .i64 m13a, .int .i64 m13b, .int .i64 m13c, .int .i64 m14a, .int .i64 m14b, .int .i64 m14c, .int .i64 m15a, .int .i64 m15b, .int .i64 m15c] := Blk.keep hb (by repeat' (first | (with_reducible first | assumption | refine Blk.drew ?_ | refine Blk.drewN ?_ _ | apply Blk.set | (refine Blk.new ?_; focus (first | rfl | (simp; done))) | refine Blk.alloc ?_ _ | refine Blk.other ?_ ?_ _) | exact eqL rfl | (refine neB ?_; omega)))
  have Br : Blk W5 (w.heap.size + 1) [.int .i64 0, .int .i64 0, .int .i64 0, .int .i64 0, .int .i64 0, .int .i64 0, .int .i64 0, .int .i64 0, .int .i64 0, .int .i64 0, .int .i64 0, .int .i64 0, .int .i64 0, .int .i64 0, .int .i64 0, .int .i64 0, .int .i64 0, .int .i64 0, .int .i64 0, .int .i64 0, .int .i64 0, .int .i64 0, .int .i64 0, .int .i64 0, .int .i64 0, .int .i64 0, .int .i64 0, .int .i64 0, .int .i64 0, .int .i64 0, .int .i64 0, .int .i64 0, .int .i64 0, .int .i64 0, .int .i64 0, .int .i64 0, .int .i64 0, .int .i64 0, .int .i64 0, .int .i64 0, .int .i64 0, .int .i64 0, .int .i64 0, .int .i64 0, .int .i64 0, .int .i64 0, .int .i64 0, .int .i64 0] := Blk.keep hb (by repeat' (first | (with_reducible first | assumption | refine Blk.drew ?_ | refine Blk.drewN ?_ _ | apply Blk.set | (refine Blk.new ?_; focus (first | rfl | (simp; done))) | refine Blk.alloc ?_ _ | refine Blk.other ?_ ?_ _) | exact eqL rfl | (refine neB ?_; omega)))
  have Bo : Blk W5 (w.heap.size + 1 + 1) [.int .i64 m0a, .int .i64 m0b, .int .i64 m0c, .int .i64 m1a, .int .i64 m1b, .int .i64 m1c, .int .i64 m2a, .int .i64 m2b, .int .i64 m2c, .int .i64 m3a, .int .i64 m3b, .int .i64 m3c, .int .i64 0, .int .i64 0, .int .i64 0, .int .i64 0, .int .i64 0, .int .i64 0, .int .i64 0, .int .i64 0, .int .i64 0, .int .i64 0, .int .i64 0, .int .i64 0, .int .i64 0, .int .i64 0, .int .i64 0, .int .i64 0, .int .i64 0, .int .i64 0, .int .i64 0, .int .i64 0, .int .i64 0, .int .i64 0, .int .i64 0, .int .i64 0, .int .i64 0, .int .i64 0, .int .i64 0, .int .i64 0, .int .i64 0, .int .i64 0, .int .i64 0, .int .i64 0, .int .i64 0, .int .i64 0, .int .i64 0, .int .i64 0] := Blk.keep hb (by repeat' (first | (with_reducible first | assumption | refine Blk.drew ?_ | refine Blk.drewN ?_ _ | apply Blk.set | (refine Blk.new ?_; focus (first | rfl | (simp; done))) | refine Blk.alloc ?_ _ | refine Blk.other ?_ ?_ _) | exact eqL rfl | (refine neB ?_; omega)))
  have ca := Ba.cell
  have fa := Ba.free
  have la_W5 := Ba.lt
  have cr := Br.cell
  have fr := Br.free
  have lr_W5 := Br.lt
  have co := Bo.cell
  have fo := Bo.free
  have lo_W5 := Bo.lt
  have kaW5 : Acc w W5 := by
    refine Acc.call ?_ hb
    (repeat' (first | (with_reducible first | assumption | exact Acc.refl _ | refine Acc.drew ?_ | refine Acc.drewN ?_ _ | refine Acc.alloc ?_ _ | refine Acc.setCell ?_ ?_ _) | (refine leB ?_; omega)))
  clear hb
  go_wp2_with fail
  rw [rounds_succ]
  go_wp2_with fail
  refine (toFrac_any m5a m5b m5c _).mono ?_
  rintro e W6 ⟨rfl, hb⟩
  have Ba : Blk W6 (w.heap.size) [.int .i64 m0a, .int .i64 m0b, .int .i64 m0c, .int .i64 m1a, .int .i64 m1b, .int .i64 m1c, .int .i64 m2a, .int .i64 m2b, .int .i64 m2c, .int .i64 m3a, .int .i64 m3b, .int .i64 m3c, .int .i64 m4a, .int .i64 m4b, .int .i64 m4c, .int .i64 m5a, .int .i64 m5b, .int .i64 m5c, .int .i64 m6a, .int .i64 m6b, .int .i64 m6c, .int .i64 m7a, .int .i64 m7b, .int .i64 m7c, .int .i64 m8a, .int .i64 m8b, .int .i64 m8c, .int .i64 m9a, .int .i64 m9b, .int .i64 m9c, .int .i64 m10a, .int .i64 m10b, .int .i64 m10c, .int .i64 m11a, .int .i64 m11b, .int .i64 m11c, .int .i64 m12a, .int .i64 m12b, .int .i64 m12c, .int .i64 m13a, .int .i64 m13b, .int .i64 m13c, .int .i64 m14a, .int .i64 m14b, .int .i64 m14c, .int .i64 m15a, .int .i64 m15b, .int .i64 m15c] := Blk.keep hb (by repeat' (first | (with_reducible first | assumption | refine Blk.drew ?_ | refine Blk.drewN ?_ _ | apply Blk.set | (refine Blk.new ?_; focus (first | rfl | (simp; done))) | refine Blk.alloc ?_ _ | refine Blk.other ?_ ?_ _) | exact eqL rfl | (refine neB ?_; omega)))
  have Br : Blk W6 (w.heap.size + 1) [.int .i64 0, .int .i64 0, .int .i64 0, .int .i64 0, .int .i64 0, .int .i64 0, .int .i64 0, .int .i64 0, .int .i64 0, .int .i64 0, .int .i64 0, .int .i64 0, .int .i64 0, .int .i64 0, .int .i64 0, .int .i64 0, .int .i64 0, .int .i64 0, .int .i64 0, .int .i64 0, .int .i64 0, .int .i64 0, .int .i64 0, .int .i64 0, .int .i64 0, .int .i64 0, .int .i64 0, .int .i64 0, .int .i64 0, .int .i64 0, .int .i64 0, .int .i64 0, .int .i64 0, .int .i64 0, .int .i64 0, .int .i64 0, .int .i64 0, .int .i64 0, .int .i64 0, .int .i64 0, .int .i64 0, .int .i64 0, .int .i64 0, .int .i64 0, .int .i64 0, .int .i64 0, .int .i64 0, .int .i64 0] := Blk.keep hb (by repeat' (first | (with_reducible first | assumption | refine Blk.drew ?_ | refine Blk.drewN ?_ _ | apply Blk.set | (refine Blk.new ?_; focus (first | rfl | (simp; done))) | refine Blk.alloc ?_ _ | refine Blk.other ?_ ?_ _) | exact eqL rfl | (refine neB ?_; omega)))
  have Bo : Blk W6 (w.heap.size + 1 + 1) [.int .i64 m0a, .int .i64 m0b, .int .i64 m0c, .int .i64 m1a, .int .i64 m1b, .int .i64 m1c, .int .i64 m2a, .int .i64 m2b, .int .i64 m2c, .int .i64 m3a, .int .i64 m3b, .int .i64 m3c, .int .i64 m4a, .int .i64 m4b, .int .i64 m4c, .int .i64 0, .int .i64 0, .int .i64 0, .int .i64 0, .int .i64 0, .int .i64 0, .int .i64 0, .int .i64 0, .int .i64 0, .int .i64 0, .int .i64 0, .int .i64 0, .int .i64 0, .int .i64 0, .int .i64 0, .int .i64 0, .int .i64 0, .int .i64 0, .int .i64 0, .int .i64 0, .int .i64 0, .int .i64 0, .int .i64 0, .int .i64 0, .int .i64 0, .int .i64 0, .int .i64 0, .int .i64 0, .int .i64 0, .int .i64 0, .int .i64 0, .int .i64 0, .int .i64 0] := Blk.keep hb (by repeat' (first | (with_reducible first | assumption | refine Blk.drew ?_ | refine Blk.drewN ?_ _ | apply Blk.set | (refine Blk.new ?_; focus (first | rfl | (simp; done))) | refine Blk.alloc ?_ _ | refine Blk.other ?_ ?_ _) | exact eqL rfl | (refine neB ?_; omega)))
  have ca := Ba.cell
  have fa := Ba.free
  have la_W6 := Ba.lt
  have cr := Br.cell
  have fr := Br.free
  have lr_W6 := Br.lt
  have co := Bo.cell
  have fo := Bo.free
  have lo_W6 := Bo.lt
  have kaW6 : Acc w W6 := by
    refine Acc.call ?_ hb
    (repeat' (first | (with_reducible first | assumption | exact Acc.refl _ | refine Acc.drew ?_ | refine Acc.drewN ?_ _ | refine Acc.alloc ?_ _ | refine Acc.setCell ?_ ?_ _) | (refine leB ?_; omega)))
  clear hb
  go_wp2_with fail
  rw [rounds_succ]
  go_wp2_with fail
  refine (toFrac_any m6a m6b m6c _).mono ?_
  rintro e W7 ⟨rfl, hb⟩
  have Ba : Blk W7 (w.heap.size) [.int .i64 m0a, .int .i64 m0b, .int .i64 m0c, .int .i64 m1a, .int .i64 m1b, .int .i64 m1c, .int .i64 m2a, .int .i64 m2b, .int .i64 m2c, .int .i64 m3a, .int .i64 m3b, .int .i64 m3c, .int .i64 m4a, .int .i64 m4b, .int .i64 m4c, .int .i64 m5a, .int .i64 m5b, .int .i64 m5c, .int .i64 m6a, .int .i64 m6b, .int .i64 m6c, .int .i64 m7a, .int .i64 m7b, .int .i64 m7c, .int .i64 m8a, .int .i64 m8b, .int .i64 m8c, .int .i64 m9a, .int .i64 m9b, .int .i64 m9c, .int .i64 m10a, .int .i64 m10b, .int .i64 m10c, .int .i64 m11a, .int .i64 m11b, .int .i64 m11c, .int .i64 m12a, .int .i64 m12b, .int .i64 m12c, .int .i64 m13a, .int .i64 m13b, .int .i64 m13c, .int .i64 m14a, .int .i64 m14b, .int .i64 m14c, .int .i64 m15a, .int .i64 m15b, .int .i64 m15c] := Blk.keep hb (by repeat' (first | (with_reducible first | assumption | refine Blk.drew ?_ | refine Blk.drewN ?_ _ | apply Blk.set | (refine Blk.new ?_; focus (first | rfl | (simp; done))) | refine Blk.alloc ?_ _ | refine Blk.other ?_ ?_ _) | exact eqL rfl | (refine neB ?_; omega)))
  have Br : Blk W7 (w.heap.size + 1) [.int .i64 0, .int .i64 0, .int .i64 0, .int .i64 0, .int .i64 0, .int .i64 0, .int .i64 0, .int .i64 0, .int .i64 0, .int .i64 0, .int .i64 0, .int .i64 0, .int .i64 0, .int .i64 0, .int .i64 0, .int .i64 0, .int .i64 0, .int .i64 0, .int .i64 0, .int .i64 0, .int .i64 0, .int .i64 0, .int .i64 0, .int .i64 0, .int .i64 0, .int .i64 0, .int .i64 0, .int .i64 0, .int .i64 0, .int .i64 0, .int .i64 0, .int .i64 0, .int .i64 0, .int .i64 0, .int .i64 0, .int .i64 0, .int .i64 0, .int .i64 0, .int .i64 0, .int .i64 0, .int .i64 0, .int .i64 0, .int .i64 0, .int .i64 0, .int .i64 0, .int .i64 0, .int .i64 0, .int .i64 0] := Blk.keep hb (by repeat' (first | (with_reducible first | assumption | refine Blk.drew ?_ | refine Blk.drewN ?_ _ | apply Blk.set | (refine Blk.new ?_; focus (first | rfl | (simp; done))) | refine Blk.alloc ?_ _ | refine Blk.other ?_ ?_ _) | exact eqL rfl | (refine neB ?_; omega)))
  have Bo : Blk W7 (w.heap.size + 1 + 1) [.int .i64 m0a, .int .i64 m0b, .int .i64 m0c, .int .i64 m1a, .int .i64 m1b, .int .i64 m1c, .int .i64 m2a, .int .i64 m2b, .int .i64 m2c, .int .i64 m3a, .int .i64 m3b, .int .i64 m3c, .int .i64 m4a, .int .i64 m4b, .int .i64 m4c, .int .i64 m5a, .int .i64 m5b, .int .i64 m5c, .int .i64 0, .int .i64 0, .int .i64 0, .int .i64 0, .int .i64 0, .int .i64 0, .int .i64 0, .int .i64 0, .int .i64 0, .int .i64 0, .int .i64 0, .int .i64 0, .int .i64 0, .int .i64 0, .int .i64 0, .int .i64 0, .int .i64 0, .int .i64 0, .int .i64 0, .int .i64 0, .int .i64 0, .int .i64 0, .int .i64 0, .int .i64 0, .int .i64 0, .int .i64 0, .int .i64 0, .int .i64 0, .int .i64 0, .int .i64 0] := Blk.keep hb (by repeat' (first | (with_reducible first | assumption | refine Blk.drew ?_ | refine Blk.drewN ?_ _ | apply Blk.set | (refine Blk.new ?_; focus (first | rfl | (simp; done))) | refine Blk.alloc ?_ _ | refine Blk.other ?_ ?_ _) | exact eqL rfl | (refine neB ?_; omega)))
  have ca := Ba.cell
  have fa := Ba.free
  have la_W7 := Ba.lt
  have cr := Br.cell
  have fr := Br.free
  have lr_W7 := Br.lt
  have co := Bo.cell
  have fo := Bo.free
  have lo_W7 := Bo.lt
  have kaW7 : Acc w W7 := by
    refine Acc.call ?_ hb
    (repeat' (first | (with_reducible first | assumption | exact Acc.refl _ | refine Acc.drew ?_ | refine Acc.drewN ?_ _ | refine Acc.alloc ?_ _ | refine Acc.setCell ?_ ?_ _) | (refine leB ?_; omega)))
  clear hb
  go_wp2_with fail
  rw [rounds_succ]
  go_wp2_with fail
  refine (toFrac_any m7a m7b m7c _).mono ?_
  rintro e W8 ⟨rfl, hb⟩
  have Ba : Blk W8 (w.heap.size) [.int .i64 m0a, .int .i64 m0b, .int .i64 m0c, .int .i64 m1a, .int .i64 m1b, .int .i64 m1c, .int .i64 m2a, .int .i64 m2b, .int .i64 m2c, .int .i64 m3a, .int .i64 m3b, .int .i64 m3c, .int .i64 m4a, .int .i64 m4b, .int .i64 m4c, .int .i64 m5a, .int .i64 m5b, .int .i64 m5c, .int .i64 m6a, .int .i64 m6b, .int .i64 m6c, .int .i64 m7a, .int .i64 m7b, .int .i64 m7c, .int .i64 m8a, .int .i64 m8b, .int .i64 m8c, .int .i64 m9a, .int .i64 m9b, .int .i64 m9c, .int .i64 m10a, .int .i64 m10b, .int .i64 m10c, .int .i64 m11a, .int .i64 m11b, .int .i64 m11c, .int .i64 m12a, .int .i64 m12b, .int .i64 m12c, .int .i64 m13a, .int .i64 m13b, .int .i64 m13c, .int .i64 m14a, .int .i64 m14b, .int .i64 m14c, .int .i64 m15a, .int .i64 m15b, .int .i64 m15c] := Blk.keep hb (by repeat' (first | (with_reducible first | assumption | refine Blk.drew ?_ | refine Blk.drewN ?_ _ | apply Blk.set | (refine Blk.new ?_; focus (first | rfl | (simp; done))) | refine Blk.alloc ?_ _ | refine Blk.other ?_ ?_ _) | exact eqL rfl | (refine neB ?_; omega)))
  have Br : Blk W8 (w.heap.size + 1) [.int .i64 0, .int .i64 0, .int .i64 0, .int .i64 0, .int .i64 0, .int .i64 0, .int .i64 0, .int .i64 0, .int .i64 0, .int .i64 0, .int .i64 0, .int .i64 0, .int .i64 0, .int .i64 0, .int .i64 0, .int .i64 0, .int .i64 0, .int .i64 0, .int .i64 0, .int .i64 0, .int .i64 0, .int .i64 0, .int .i64 0, .int .i64 0, .int .i64 0, .int .i64 0, .int .i64 0, .int .i64 0, .int .i64 0, .int .i64 0, .int .i64 0, .int .i64 0, .int .i64 0, .int .i64 0, .int .i64 0, .int .i64 0, .int .i64 0, .int .i64 0, .int .i64 0, .int .i64 0, .int .i64 0, .int .i64 0, .int .i64 0, .int .i64 0, .int .i64 0, .int .i64 0, .int .i64 0, .int .i64 0] := Blk.keep hb (by repeat' (first | (with_reducible first | assumption | refine Blk.drew ?_ | refine Blk.drewN ?_ _ | apply Blk.set | (refine Blk.new ?_; focus (first | rfl | (simp; done))) | refine Blk.alloc ?_ _ | refine Blk.other ?_ ?_ _) | exact eqL rfl | (refine neB ?_; omega)))
  have Bo : Blk W8 (w.heap.size + 1 + 1) [.int .i64 m0a, .int .i64 m0b, .int .i64 m0c, .int .i64 m1a, .int .i64 m1b, .int .i64 m1c, .int .i64 m2a, .int .i64 m2b, .int .i64 m2c, .int .i64 m3a, .int .i64 m3b, .int .i64 m3c, .int .i64 m4a, .int .i64 m4b, .int .i64 m4c, .int .i64 m5a, .int .i64 m5b, .int .i64 m5c, .int .i64 m6a, .int .i64 m6b, .int .i64 m6c, .int .i64 0, .int .i64 0, .int .i64 0, .int .i64 0, .int .i64 0, .int .i64 0, .int .i64 0, .int .i64 0, .int .i64 0, .int .i64 0, .int .i64 0, .int .i64 0, .int .i64 0, .int .i64 0, .int .i64 0, .int .i64 0, .int .i64 0, .int .i64 0, .int .i64 0, .int .i64 0, .int .i64 0, .int .i64 0, .int .i64 0, .int .i64 0, .int .i64 0, .int .i64 0, .int .i64 0] := Blk.keep hb (by repeat' (first | (with_reducible first | assumption | refine Blk.drew ?_ | refine Blk.drewN ?_ _ | apply Blk.set | (refine Blk.new ?_; focus (first | rfl | (simp; done))) | refine Blk.alloc ?_ _ | refine Blk.other ?_ ?_ _) | exact eqL rfl | (refine neB ?_; omega)))
  have ca := Ba.cell
  have fa := Ba.free
  have la_W8 := Ba.lt
  have cr := Br.cell
  have fr := Br.free
  have lr_W8 := Br.lt
  have co := Bo.cell
  have fo := Bo.free
  have lo_W8 := Bo.lt
  have kaW8 : Acc w W8 := by
    refine Acc.call ?_ hb
    (repeat' (first | (with_reducible first | assumption | exact Acc.refl _ | refine Acc.drew ?_ | refine Acc.drewN ?_ _ | refine Acc.alloc ?_ _ | refine Acc.setCell ?_ ?_ _) | (refine leB ?_; omega)))
  clear hb
  go_wp2_with fail
  rw [rounds_succ]
  go_wp2_with fail
  refine (toFrac_any m8a m8b m8c _).mono ?_
  rintro e W9 ⟨rfl, hb⟩
  have Ba : Blk W9 (w.heap.size) [.int .i64 m0a, .int .i64 m0b, .int .i64 m0c, .int .i64 m1a, .int .i64 m1b, .int .i64 m1c, .int .i64 m2a, .int .i64 m2b, .int .i64 m2c, .int .i64 m3a, .int .i64 m3b, .int .i64 m3c, .int .i64 m4a, .int .i64 m4b, .int .i64 m4c, .int .i64 m5a, .int .i64 m5b, .int .i64 m5c, .int .i64 m6a, .int .i64 m6b, .int .i64 m6c, .int .i64 m7a, .int .i64 m7b, .int .i64 m7c, .int .i64 m8a, .int .i64 m8b, .int .i64 m8c, .int .i64 m9a, .int .i64 m9b, .int .i64 m9c, .int .i64 m10a, .int .i64 m10b, .int .i64 m10c, .int .i64 m11a, .int .i64 m11b, .int .i64 m11c, .int .i64 m12a, .int .i64 m12b, .int .i64 m12c, .int .i64 m13a, .int .i64 m13b, .int .i64 m13c, .int .i64 m14a, .int .i64 m14b, .int .i64 m14c, .int .i64 m15a, .int .i64 m15b, .int .i64 m15c] := Blk.keep hb (by repeat' (first | (with_reducible first | assumption | refine Blk.drew ?_ | refine Blk.drewN ?_ _ | apply Blk.set | (refine Blk.new ?_; focus (first | rfl | (simp; done))) | refine Blk.alloc ?_ _ | refine Blk.other ?_ ?_ _) | exact eqL rfl | (refine neB ?_; omega)))
  have Br : Blk W9 (w.heap.size + 1) [.int .i64 0, .int .i64 0, .int .i64 0, .int .i64 0, .int .i64 0, .int .i64 0, .int .i64 0, .int .i64 0, .int .i64 0, .int .i64 0, .int .i64 0, .int .i64 0, .int .i64 0, .int .i64 0, .int .i64 0, .int .i64 0, .int .i64 0, .int .i64 0, .int .i64 0, .int .i64 0, .int .i64 0, .int .i64 0, .int .i64 0, .int .i64 0, .int .i64 0, .int .i64 0, .int .i64 0, .int .i64 0, .int .i64 0, .int .i64 0, .int .i64 0, .int .i64 0, .int .i64 0, .int .i64 0, .int .i64 0, .int .i64 0, .int .i64 0, .int .i64 0, .int .i64 0, .int .i64 0, .int .i64 0, .int .i64 0, .int .i64 0, .int .i64 0, .int .i64 0, .int .i64 0, .int .i64 0, .int .i64 0] := Blk.keep hb (by repeat' (first | (with_reducible first | assumption | refine Blk.drew ?_ | refine Blk.drewN ?_ _ | apply Blk.set | (refine Blk.new ?_; focus (first | rfl | (simp; done))) | refine Blk.alloc ?_ _ | refine Blk.other ?_ ?_ _) | exact eqL rfl | (refine neB ?_; omega)))
  have Bo : Blk W9 (w.heap.size + 1 + 1) [.int .i64 m0a, .int .i64 m0b, .int .i64 m0c, .int .i64 m1a, .int .i64 m1b, .int .i64 m1c, .int .i64 m2a, .int .i64 m2b, .int .i64 m2c, .int .i64 m3a, .int .i64 m3b, .int .i64 m3c, .int .i64 m4a, .int .i64 m4b, .int .i64 m4c, .int .i64 m5a, .int .i64 m5b, .int .i64 m5c, .int .i64 m6a, .int .i64 m6b, .int .i64 m6c, .int .i64 m7a, .int .i64 m7b, .int .i64 m7c, .int .i64 0, .int .i64 0, .int .i64 0, .int .i64 0, .int .i64 0, .int .i64 0, .int .i64 0, .int .i64 0, .int .i64 0, .int .i64 0, .int .i64 0, .int .i64 0, .int .i64 0, .int .i64 0, .int .i64 0, .int .i64 0, .int .i64 0, .int .i64 0, .int .i64 0, .int .i64 0, .int .i64 0, .int .i64 0, .int .i64 0, .int .i64 0] := Blk.keep hb (by repeat' (first | (with_reducible first | assumption | refine Blk.drew ?_ | refine Blk.drewN ?_ _ | apply Blk.set | (refine Blk.new ?_; focus (first | rfl | (simp; done))) | refine Blk.alloc ?_ _ | refine Blk.other ?_ ?_ _) | exact eqL rfl | (refine neB ?_; omega)))
  have ca := Ba.cell
  have fa := Ba.free
  have la_W9 := Ba.lt
  have cr := Br.cell
  have fr := Br.free
  have lr_W9 := Br.lt
  have co := Bo.cell
  have fo := Bo.free
  have lo_W9 := Bo.lt
  have kaW9 : Acc w W9 := by
    refine Acc.call ?_ hb
    (repeat' (first | (with_reducible first | assumption | exact Acc.refl _ | refine Acc.drew ?_ | refine Acc.drewN ?_ _ | refine Acc.alloc ?_ _ | refine Acc.setCell ?_ ?_ _) | (refine leB ?_; omega)))
  clear hb
  go_wp2_with fail
  rw [rounds_succ]
  go_wp2_with fail
  refine (toFrac_any m9a m9b m9c _).mono ?_
  rintro e W10 ⟨rfl, hb⟩
  have Ba : Blk W10 (w.heap.size) [.int .i64 m0a, .int .i64 m0b, .int .i64 m0c, .int .i64 m1a, .int .i64 m1b, .int .i64 m1c, .int .i64 m2a, .int .i64 m2b, .int .i64 m2c, .int .i64 m3a, .int .i64 m3b, .int .i64 m3c, .int .i64 m4a, .int .i64 m4b, .int .i64 m4c, .int .i64 m5a, .int .i64 m5b, .int .i64 m5c, .int .i64 m6a, .int .i64 m6b, .int .i64 m6c, .int .i64 m7a, .int .i64 m7b, .int .i64 m7c, .int .i64 m8a, .int .i64 m8b, .int .i64 m8c, .int .i64 m9a, .int .i64 m9b, .int .i64 m9c, .int .i64 m10a, .int .i64 m10b, .int .i64 m10c, .int .i64 m11a, .int .i64 m11b, .int .i64 m11c, .int .i64 m12a, .int .i64 m12b, .int .i64 m12c, .int .i64 m13a, .int .i64 m13b, .int .i64 m13c, .int .i64 m14a, .int .i64 m14b, .int .i64 m14c, .int .i64 m15a, .int .i64 m15b, .int .i64 m15c] := Blk.keep hb (by repeat' (first | (with_reducible first | assumption | refine Blk.drew ?_ | refine Blk.drewN ?_ _ | apply Blk.set | (refine Blk.new ?_; focus (first | rfl | (simp; done))) | refine Blk.alloc ?_ _ | refine Blk.other ?_ ?_ _) | exact eqL rfl | (refine neB ?_; omega)))
  have Br : Blk W10 (w.heap.size + 1) [.int .i64 0, .int .i64 0, .int .i64 0, .int .i64 0, .int .i64 0, .int .i64 0, .int .i64 0, .int .i64 0, .int .i64 0, .int .i64 0, .int .i64 0, .int .i64 0, .int .i64 0, .int .i64 0, .int .i64 0, .int .i64 0, .int .i64 0, .int .i64 0, .int .i64 0, .int .i64 0, .int .i64 0, .int .i64 0, .int .i64 0, .int .i64 0, .int .i64 0, .int .i64 0, .int .i64 0, .int .i64 0, .int .i64 0, .int .i64 0, .int .i64 0, .int .i64 0, .int .i64 0, .int .i64 0, .int .i64 0, .int .i64 0, .int .i64 0, .int .i64 0, .int .i64 0, .int .i64 0, .int .i64 0, .int .i64 0, .int .i64 0, .int .i64 0, .int .i64 0, .int .i64 0, .int .i64 0, .int .i64 0] := Blk.keep hb (by repeat' (first | (with_reducible first | assumption | refine Blk.drew ?_ | refine Blk.drewN ?_ _ | apply Blk.set | (refine Blk.new ?_; focus (first | rfl | (simp; done))) | refine Blk.alloc ?_ _ | refine Blk.other ?_ ?_ _) | exact eqL rfl | (refine neB ?_; omega)))
  have Bo : Blk W10 (w.heap.size + 1 + 1) [.int .i64 m0a, .int .i64 m0b, .int .i64 m0c, .int .i64 m1a, .int .i64 m1b, .int .i64 m1c, .int .i64 m2a, .int .i64 m2b, .int .i64 m2c, .int .i64 m3a, .int .i64 m3b, .int .i64 m3c, .int .i64 m4a, .int .i64 m4b, .int .i64 m4c, .int .i64 m5a, .int .i64 m5b, .int .i64 m5c, .int .i64 m6a, .int .i64 m6b, .int .i64 m6c, .int .i64 m7a, .int .i64 m7b, .int .i64 m7c, .int .i64 m8a, .int .i64 m8b, .int .i64 m8c, .int .i64 0, .int .i64 0, .int .i64 0, .int .i64 0, .int .i64 0, .int .i64 0, .int .i64 0, .int .i64 0, .int .i64 0, .int .i64 0, .int .i64 0, .int .i64 0, .int .i64 0, .int .i64 0, .int .i64 0, .int .i64 0, .int .i64 0, .int .i64 0, .int .i64 0, .int .i64 0, .int .i64 0] := Blk.keep hb (by repeat' (first | (with_reducible first | assumption | refine Blk.drew ?_ | refine Blk.drewN ?_ _ | apply Blk.set | (refine Blk.new ?_; focus (first | rfl | (simp; done))) | refine Blk.alloc ?_ _ | refine Blk.other ?_ ?_ _) | exact eqL rfl | (refine neB ?_; omega)))
  have ca := Ba.cell
  have fa := Ba.free
  have la_W10 := Ba.lt
  have cr := Br.cell
  have fr := Br.free
  have lr_W10 := Br.lt
  have co := Bo.cell
  have fo := Bo.free
  have lo_W10 := Bo.lt
  have kaW10 : Acc w W10 := by
    refine Acc.call ?_ hb
    (repeat' (first | (with_reducible first | assumption | exact Acc.refl _ | refine Acc.drew ?_ | refine Acc.drewN ?_ _ | refine Acc.alloc ?_ _ | refine Acc.setCell ?_ ?_ _) | (refine leB ?_; omega)))
  clear hb
  go_wp2_with fail
  rw [rounds_succ]
  go_wp2_with fail
  refine (toFrac_any m10a m10b m10c _).mono ?_
  rintro e W11 ⟨rfl, hb⟩
  have Ba : Blk W11 (w.heap.size) [.int .i64 m0a, .int .i64 m0b, .int .i64 m0c, .int .i64 m1a, .int .i64 m1b, .int .i64 m1c, .int .i64 m2a, .int .i64 m2b, .int .i64 m2c, .int .i64 m3a, .int .i64 m3b, .int .i64 m3c, .int .i64 m4a, .int .i64 m4b, .int .i64 m4c, .int .i64 m5a, .int .i64 m5b, .int .i64 m5c, .int .i64 m6a, .int .i64 m6b, .int .i64 m6c, .int .i64 m7a, .int .i64 m7b, .int .i64 m7c, .int .i64 m8a, .int .i64 m8b, .int .i64 m8c, .int .i64 m9a, .int .i64 m9b, .int .i64 m9c, .int .i64 m10a, .int .i64 m10b, .int .i64 m10c, .int .i64 m11a, .int .i64 m11b, .int .i64 m11c, .int .i64 m12a, .int .i64 m12b, .int .i64 m12c, .int .i64 m13a, .int .i64 m13b, .int .i64 m13c, .int .i64 m14a, .int .i64 m14b, .int .i64 m14c, .int .i64 m15a, .int .i64 m15b, .int .i64 m15c] := Blk.keep hb (by repeat' (first | (with_reducible first | assumption | refine Blk.drew ?_ | refine Blk.drewN ?_ _ | apply Blk.set | (refine Blk.new ?_; focus (first | rfl | (simp; done))) | refine Blk.alloc ?_ _ | refine Blk.other ?_ ?_ _) | exact eqL rfl | (refine neB ?_; omega)))
  have Br : Blk W11 (w.heap.size + 1) [.int .i64 0, .int .i64 0, .int .i64 0, .int .i64 0, .int .i64 0, .int .i64 0, .int .i64 0, .int .i64 0, .int .i64 0, .int .i64 0, .int .i64 0, .int .i64 0, .int .i64 0, .int .i64 0, .int .i64 0, .int .i64 0, .int .i64 0, .int .i64 0, .int .i64 0, .int .i64 0, .int .i64 0, .int .i64 0, .int .i64 0, .int .i64 0, .int .i64 0, .int .i64 0, .int .i64 0, .int .i64 0, .int .i64 0, .int .i64 0, .int .i64 0, .int .i64 0, .int .i64 0, .int .i64 0, .int .i64 0, .int .i64 0, .int .i64 0, .int .i64 0, .int .i64 0, .int .i64 0, .int .i64 0, .int .i64 0, .int .i64 0, .int .i64 0, .int .i64 0, .int .i64 0, .int .i64 0, .int .i64 0] := Blk.keep hb (by repeat' (first | (with_reducible first | assumption | refine Blk.drew ?_ | refine Blk.drewN ?_ _ | apply Blk.set | (refine Blk.new ?_; focus (first | rfl | (simp; done))) | refine Blk.alloc ?_ _ | refine Blk.other ?_ ?_ _) | exact eqL rfl | (refine neB ?_; omega)))
  have Bo : Blk W11 (w.heap.size + 1 + 1) [.int .i64 m0a, .int .i64 m0b, .int .i64 m0c, .int .i64 m1a, .int .i64 m1b, .int .i64 m1c, .int .i64 m2a, .int .i64 m2b, .int .i64 m2c, .int .i64 m3a, .int .i64 m3b, .int .i64 m3c, .int .i64 m4a, .int .i64 m4b, .int .i64 m4c, .int .i64 m5a, .int .i64 m5b, .int .i64 m5c, .int .i64 m6a, .int .i64 m6b, .int .i64 m6c, .int .i64 m7a, .int .i64 m7b, .int .i64 m7c, .int .i64 m8a, .int .i64 m8b, .int .i64 m8c, .int .i64 m9a, .int .i64 m9b, .int .i64 m9c, .int .i64 0, .int .i64 0, .int .i64 0, .int .i64 0, .int .i64 0, .int .i64 0, .int .i64 0, .int .i64 0, .int .i64 0, .int .i64 0, .int .i64 0, .int .i64 0, .int .i64 0, .int .i64 0, .int .i64 0, .int .i64 0, .int .i64 0, .int .i64 0] := Blk.keep hb (by repeat' (first | (with_reducible first | assumption | refine Blk.drew ?_ | refine Blk.drewN ?_ _ | apply Blk.set | (refine Blk.new ?_; focus (first | rfl | (simp; done))) | refine Blk.alloc ?_ _ | refine Blk.other ?_ ?_ _) | exact eqL rfl | (refine neB ?_; omega)))
  have ca := Ba.cell
  have fa := Ba.free
  have la_W11 := Ba.lt
  have cr := Br.cell
  have fr := Br.free
  have lr_W11 := Br.lt
  have co := Bo.cell
  have fo := Bo.free
  have lo_W11 := Bo.lt
  have kaW11 : Acc w W11 := by
    refine Acc.call ?_ hb
    (repeat' (first | (with_reducible first | assumption | exact Acc.refl _ | refine Acc.drew ?_ | refine Acc.drewN ?_ _ | refine Acc.alloc ?_ _ | refine Acc.setCell ?_ ?_ _) | (refine leB ?_; omega)))
  clear hb
  go_wp2_with fail
  rw [rounds_succ]
  go_wp2_with fail
  refine (toFrac_any m11a m11b m11c _).mono ?_
  rintro e W12 ⟨rfl, hb⟩
  have Ba : Blk W12 (w.heap.size) [.int .i64 m0a, .int .i64 m0b, .int .i64 m0c, .int .i64 m1a, .int .i64 m1b, .int .i64 m1c, .int .i64 m2a, .int .i64 m2b, .int .i64 m2c, .int .i64 m3a, .int .i64 m3b, .int .i64 m3c, .int .i64 m4a, .int .i64 m4b, .int .i64 m4c, .int .i64 m5a, .int .i64 m5b, .int .i64 m5c, .int .i64 m6a, .int .i64 m6b, .int .i64 m6c, .int .i64 m7a, .int .i64 m7b, .int .i64 m7c, .int .i64 m8a, .int .i64 m8b, .int .i64 m8c, .int .i64 m9a, .int .i64 m9b, .int .i64 m9c, .int .i64 m10a, .int .i64 m10b, .int .i64 m10c, .int .i64 m11a, .int .i64 m11b, .int .i64 m11c, .int .i64 m12a, .int .i64 m12b, .int .i64 m12c, .int .i64 m13a, .int .i64 m13b, .int .i64 m13c, .int .i64 m14a, .int .i64 m14b, .int .i64 m14c, .int .i64 m15a, .int .i64 m15b, .int .i64 m15c] := Blk.keep hb (by repeat' (first | (with_reducible first | assumption | refine Blk.drew ?_ | refine Blk.drewN ?_ _ | apply Blk.set | (refine Blk.new ?_; focus (first | rfl | (simp; done))) | refine Blk.alloc ?_ _ | refine Blk.other ?_ ?_ _) | exact eqL rfl | (refine neB ?_; omega)))
  have Br : Blk W12 (w.heap.size + 1) [.int .i64 0, .int .i64 0, .int .i64 0, .int .i64 0, .int .i64 0, .int .i64 0, .int .i64 0, .int .i64 0, .int .i64 0, .int .i64 0, .int .i64 0, .int .i64 0, .int .i64 0, .int .i64 0, .int .i64 0, .int .i64 0, .int .i64 0, .int .i64 0, .int .i64 0, .int .i64 0, .int .i64 0, .int .i64 0, .int .i64 0, .int .i64 0, .int .i64 0, .int .i64 0, .int .i64 0, .int .i64 0, .int .i64 0, .int .i64 0, .int .i64 0, .int .i64 0, .int .i64 0, .int .i64 0, .int .i64 0, .int .i64 0, .int .i64 0, .int .i64 0, .int .i64 0, .int .i64 0, .int .i64 0, .int .i64 0, .int .i64 0, .int .i64 0, .int .i64 0, .int .i64 0, .int .i64 0, .int .i64 0] := Blk.keep hb (by repeat' (first | (with_reducible first | assumption | refine Blk.drew ?_ | refine Blk.drewN ?_ _ | apply Blk.set | (refine Blk.new ?_; focus (first | rfl | (simp; done))) | refine Blk.alloc ?_ _ | refine Blk.other ?_ ?_ _) | exact eqL rfl | (refine neB ?_; omega)))
  have Bo : Blk W12 (w.heap.size + 1 + 1) [.int .i64 m0a, .int .i64 m0b, .int .i64 m0c, .int .i64 m1a, .int .i64 m1b, .int .i64 m1c, .int .i64 m2a, .int .i64 m2b, .int .i64 m2c, .int .i64 m3a, .int .i64 m3b, .int .i64 m3c, .int .i64 m4a, .int .i64 m4b, .int .i64 m4c, .int .i64 m5a, .int .i64 m5b, .int .i64 m5c, .int .i64 m6a, .int .i64 m6b, .int .i64 m6c, .int .i64 m7a, .int .i64 m7b, .int .i64 m7c, .int .i64 m8a, .int .i64 m8b, .int .i64 m8c, .int .i64 m9a, .int .i64 m9b, .int .i64 m9c, .int .i64 m10a, .int .i64 m10b, .int .i64 m10c, .int .i64 0, .int .i64 0, .int .i64 0, .int .i64 0, .int .i64 0, .int .i64 0, .int .i64 0, .int .i64 0, .int .i64 0, .int .i64 0, .int .i64 0, .int .i64 0, .int .i64 0, .int .i64 0, .int .i64 0] := Blk.keep hb (by repeat' (first | (with_reducible first | assumption | refine Blk.drew ?_ | refine Blk.drewN ?_ _ | apply Blk.set | (refine Blk.new ?_; focus (first | rfl | (simp; done))) | refine Blk.alloc ?_ _ | refine Blk.other ?_ ?_ _) | exact eqL rfl | (refine neB ?_; omega)))
  have ca := Ba.cell
  have fa := Ba.free
  have la_W12 := Ba.lt
  have cr := Br.cell
  have fr := Br.free
  have lr_W12 := Br.lt
  have co := Bo.cell
  have fo := Bo.free
  have lo_W12 := Bo.lt
  have kaW12 : Acc w W12 := by
    refine Acc.call ?_ hb
    (repeat' (first | (with_reducible first | assumption | exact Acc.refl _ | refine Acc.drew ?_ | refine Acc.drewN ?_ _ | refine Acc.alloc ?_ _ | refine Acc.setCell ?_ ?_ _) | (refine leB ?_; omega)))
  clear hb
  go_wp2_with fail
  rw [rounds_succ]
  go_wp2_with fail
  refine (toFrac_any m12a m12b m12c _).mono ?_
  rintro e W13 ⟨rfl, hb⟩
  have Ba : Blk W13 (w.heap.size) [.int .i64 m0a, .int .i64 m0b, .int .i64 m0c, .int .i64 m1a, .int .i64 m1b, .int .i64 m1c, .int .i64 m2a, .int .i64 m2b, .int .i64 m2c, .int .i64 m3a, .int .i64 m3b, .int .i64 m3c, .int .i64 m4a, .int .i64 m4b, .int .i64 m4c, .int .i64 m5a, .int .i64 m5b, .int .i64 m5c, .int .i64 m6a, .int .i64 m6b, .int .i64 m6c, .int .i64 m7a, .int .i64 m7b, .int .i64 m7c, .int .i64 m8a, .int .i64 m8b, .int .i64 m8c, .int .i64 m9a, .int .i64 m9b, .int .i64 m9c, .int .i64 m10a, .int .i64 m10b, .int .i64 m10c, .int .i64 m11a, .int .i64 m11b, .int .i64 m11c, .int .i64 m12a, .int .i64 m12b, .int .i64 m12c, .int .i64 m13a, .int .i64 m13b, .int .i64 m13c, .int .i64 m14a, .int .i64 m14b, .int .i64 m14c, .int .i64 m15a, .int .i64 m15b, .int .i64 m15c] := Blk.keep hb (by repeat' (first | (with_reducible first | assumption | refine Blk.drew ?_ | refine Blk.drewN ?_ _ | apply Blk.set | (refine Blk.new ?_; focus (first | rfl | (simp; done))) | refine Blk.alloc ?_ _ | refine Blk.other ?_ ?_ _) | exact eqL rfl | (refine neB ?_; omega)))
  have Br : Blk W13 (w.heap.size + 1) [.int .i64 0, .int .i64 0, .int .i64 0, .int .i64 0, .int .i64 0, .int .i64 0, .int .i64 0, .int .i64 0, .int .i64 0, .int .i64 0, .int .i64 0, .int .i64 0, .int .i64 0, .int .i64 0, .int .i64 0, .int .i64 0, .int .i64 0, .int .i64 0, .int .i64 0, .int .i64 0, .int .i64 0, .int .i64 0, .int .i64 0, .int .i64 0, .int .i64 0, .int .i64 0, .int .i64 0, .int .i64 0, .int .i64 0, .int .i64 0, .int .i64 0, .int .i64 0, .int .i64 0, .int .i64 0, .int .i64 0, .int .i64 0, .int .i64 0, .int .i64 0, .int .i64 0, .int .i64 0, .int .i64 0, .int .i64 0, .int .i64 0, .int .i64 0, .int .i64 0, .int .i64 0, .int .i64 0, .int .i64 0] := Blk.keep hb (by repeat' (first | (with_reducible first | assumption | refine Blk.drew ?_ | refine Blk.drewN ?_ _ | apply Blk.set | (refine Blk.new ?_; focus (first | rfl | (simp; done))) | refine Blk.alloc ?_ _ | refine Blk.other ?_ ?_ _) | exact eqL rfl | (refine neB ?_; omega)))
  have Bo : Blk W13 (w.heap.size + 1 + 1) [.int .i64 m0a, .int .i64 m0b, .int .i64 m0c, .int .i64 m1a, .int .i64 m1b, .int .i64 m1c, .int .i64 m2a, .int .i64 m2b, .int .i64 m2c, .int .i64 m3a, .int .i64 m3b, .int .i64 m3c, .int .i64 m4a, .int .i64 m4b, .int .i64 m4c, .int .i64 m5a, .int .i64 m5b, .int .i64 m5c, .int .i64 m6a, .int .i64 m6b, .int .i64 m6c, .int .i64 m7a, .int .i64 m7b, .int .i64 m7c, .int .i64 m8a, .int .i64 m8b, .int .i64 m8c, .int .i64 m9a, .int .i64 m9b, .int .i64 m9c, .int .i64 m10a, .int .i64 m10b, .int .i64 m10c, .int .i64 m11a, .int .i64 m11b, .int .i64 m11c, .int .i64 0, .int .i64 0, .int .i64 0, .int .i64 0, .int .i64 0, .int .i64 0, .int .i64 0, .int .i64 0, .int .i64 0, .int .i64 0, .int .i64 0, .int .i64 0] := Blk.keep hb (by repeat' (first | (with_reducible first | assumption | refine Blk.drew ?_ | refine Blk.drewN ?_ _ | apply Blk.set | (refine Blk.new ?_; focus (first | rfl | (simp; done))) | refine Blk.alloc ?_ _ | refine Blk.other ?_ ?_ _) | exact eqL rfl | (refine neB ?_; omega)))
  have ca := Ba.cell
  have fa := Ba.free
  have la_W13 := Ba.lt
  have cr := Br.cell
  have fr := Br.free
  have lr_W13 := Br.lt
  have co := Bo.cell
  have fo := Bo.free
  have lo_W13 := Bo.lt
  have kaW13 : Acc w W13 := by
    refine Acc.call ?_ hb
    (repeat' (first | (with_reducible first | assumption | exact Acc.refl _ | refine Acc.drew ?_ | refine Acc.drewN ?_ _ | refine Acc.alloc ?_ _ | refine Acc.setCell ?_ ?_ _) | (refine leB ?_; omega)))
  clear hb
  go_wp2_with fail
  rw [rounds_succ]
  go_wp2_with fail
  refine (toFrac_any m13a m13b m13c _).mono ?_
  rintro e W14 ⟨rfl, hb⟩
  have Ba : Blk W14 (w.heap.size) [.int .i64 m0a, .int .i64 m0b, .int .i64 m0c, .int .i64 m1a, .int .i64 m1b, .int .i64 m1c, .int .i64 m2a, .int .i64 m2b, .int .i64 m2c, .int .i64 m3a, .int .i64 m3b, .int .i64 m3c, .int .i64 m4a, .int .i64 m4b, .int .i64 m4c, .int .i64 m5a, .int .i64 m5b, .int .i64 m5c, .int .i64 m6a, .int .i64 m6b, .int .i64 m6c, .int .i64 m7a, .int .i64 m7b, .int .i64 m7c, .int .i64 m8a, .int .i64 m8b, .int .i64 m8c, .int .i64 m9a, .int .i64 m9b, .int .i64 m9c, .int .i64 m10a, .int .i64 m10b, .int .i64 m10c, .int .i64 m11a, .int .i64 m11b, .int .i64 m11c, .int .i64 m12a, .int .i64 m12b, .int .i64 m12c, .int .i64 m13a, .int .i64 m13b, .int .i64 m13c, .int .i64 m14a, .int .i64 m14b, .int .i64 m14c, .int .i64 m15a, .int .i64 m15b, .int .i64 m15c] := Blk.keep hb (by repeat' (first | (with_reducible first | assumption | refine Blk.drew ?_ | refine Blk.drewN ?_ _ | apply Blk.set | (refine Blk.new ?_; focus (first | rfl | (simp; done))) | refine Blk.alloc ?_ _ | refine Blk.other ?_ ?_ _) | exact eqL rfl | (refine neB ?_; omega)))
  have Br : Blk W14 (w.heap.size + 1) [.int .i64 0, .int .i64 0, .int .i64 0, .int .i64 0, .int .i64 0, .int .i64 0, .int .i64 0, .int .i64 0, .int .i64 0, .int .i64 0, .int .i64 0, .int .i64 0, .int .i64 0, .int .i64 0, .int .i64 0, .int .i64 0, .int .i64 0, .int .i64 0, .int .i64 0, .int .i64 0, .int .i64 0, .int .i64 0, .int .i64 0, .int .i64 0, .int .i64 0, .int .i64 0, .int .i64 0, .int .i64 0, .int .i64 0, .int .i64 0, .int .i64 0, .int .i64 0, .int .i64 0, .int .i64 0, .int .i64 0, .int .i64 0, .int .i64 0, .int .i64 0, .int .i64 0, .int .i64 0, .int .i64 0, .int .i64 0, .int .i64 0, .int .i64 0, .int .i64 0, .int .i64 0, .int .i64 0, .int .i64 0] := Blk.keep hb (by repeat' (first | (with_reducible first | assumption | refine Blk.drew ?_ | refine Blk.drewN ?_ _ | apply Blk.set | (refine Blk.new ?_; focus (first | rfl | (simp; done))) | refine Blk.alloc ?_ _ | refine Blk.other ?_ ?_ _) | exact eqL rfl | (refine neB ?_; omega)))
  have Bo : Blk W14 (w.heap.size + 1 + 1) [.int .i64 m0a, .int .i64 m0b, .int .i64 m0c, .int .i64 m1a, .int .i64 m1b, .int .i64 m1c, .int .i64 m2a, .int .i64 m2b, .int .i64 m2c, .int .i64 m3a, .int .i64 m3b, .int .i64 m3c, .int .i64 m4a, .int .i64 m4b, .int .i64 m4c, .int .i64 m5a, .int .i64 m5b, .int .i64 m5c, .int .i64 m6a, .int .i64 m6b, .int .i64 m6c, .int .i64 m7a, .int .i64 m7b, .int .i64 m7c, .int .i64 m8a, .int .i64 m8b, .int .i64 m8c, .int .i64 m9a, .int .i64 m9b, .int .i64 m9c, .int .i64 m10a, .int .i64 m10b, .int .i64 m10c, .int .i64 m11a, .int .i64 m11b, .int .i64 m11c, .int .i64 m12a, .int .i64 m12b, .int .i64 m12c, .int .i64 0, .int .i64 0, .int .i64 0, .int .i64 0, .int .i64 0, .int .i64 0, .int .i64 0, .int .i64 0, .int .i64 0] := Blk.keep hb (by repeat' (first | (with_reducible first | assumption | refine Blk.drew ?_ | refine Blk.drewN ?_ _ | apply Blk.set | (refine Blk.new ?_; focus (first | rfl | (simp; done))) | refine Blk.alloc ?_ _ | refine Blk.other ?_ ?_ _) | exact eqL rfl | (refine neB ?_; omega)))
  have ca := Ba.cell
  have fa := Ba.free
  have la_W14 := Ba.lt
  have cr := Br.cell
  have fr := Br.free
  have lr_W14 := Br.lt
  have co := Bo.cell
  have fo := Bo.free
  have lo_W14 := Bo.lt
  have kaW14 : Acc w W14 := by
    refine Acc.call ?_ hb
    (repeat' (first | (with_reducible first | assumption | exact Acc.refl _ | refine Acc.drew ?_ | refine Acc.drewN ?_ _ | refine Acc.alloc ?_ _ | refine Acc.setCell ?_ ?_ _) | (refine leB ?_; omega)))
  clear hb
  go_wp2_with fail
  rw [rounds_succ]
  go_wp2_with fail
  refine (toFrac_any m14a m14b m14c _).mono ?_
  rintro e W15 ⟨rfl, hb⟩
  have Ba : Blk W15 (w.heap.size) [.int .i64 m0a, .int .i64 m0b, .int .i64 m0c, .int .i64 m1a, .int .i64 m1b, .int .i64 m1c, .int .i64 m2a, .int .i64 m2b, .int .i64 m2c, .int .i64 m3a, .int .i64 m3b, .int .i64 m3c, .int .i64 m4a, .int .i64 m4b, .int .i64 m4c, .int .i64 m5a, .int .i64 m5b, .int .i64 m5c, .int .i64 m6a, .int .i64 m6b, .int .i64 m6c, .int .i64 m7a, .int .i64 m7b, .int .i64 m7c, .int .i64 m8a, .int .i64 m8b, .int .i64 m8c, .int .i64 m9a, .int .i64 m9b, .int .i64 m9c, .int .i64 m10a, .int .i64 m10b, .int .i64 m10c, .int .i64 m11a, .int .i64 m11b, .int .i64 m11c, .int .i64 m12a, .int .i64 m12b, .int .i64 m12c, .int .i64 m13a, .int .i64 m13b, .int .i64 m13c, .int .i64 m14a, .int .i64 m14b, .int .i64 m14c, .int .i64 m15a, .int .i64 m15b, .int .i64 m15c] := Blk.keep hb (by repeat' (first | (with_reducible first | assumption | refine Blk.drew ?_ | refine Blk.drewN ?_ _ | apply Blk.set | (refine Blk.new ?_; focus (first | rfl | (simp; done))) | refine Blk.alloc ?_ _ | refine Blk.other ?_ ?_ _) | exact eqL rfl | (refine neB ?_; omega)))
  have Br : Blk W15 (w.heap.size + 1) [.int .i64 0, .int .i64 0, .int .i64 0, .int .i64 0, .int .i64 0, .int .i64 0, .int .i64 0, .int .i64 0, .int .i64 0, .int .i64 0, .int .i64 0, .int .i64 0, .int .i64 0, .int .i64 0, .int .i64 0, .int .i64 0, .int .i64 0, .int .i64 0, .int .i64 0, .int .i64 0, .int .i64 0, .int .i64 0, .int .i64 0, .int .i64 0, .int .i64 0, .int .i64 0, .int .i64 0, .int .i64 0, .int .i64 0, .int .i64 0, .int .i64 0, .int .i64 0, .int .i64 0, .int .i64 0, .int .i64 0, .int .i64 0, .int .i64 0, .int .i64 0, .int .i64 0, .int .i64 0, .int .i64 0, .int .i64 0, .int .i64 0, .int .i64 0, .int .i64 0, .int .i64 0, .int .i64 0, .int .i64 0] := Blk.keep hb (by repeat' (first | (with_reducible first | assumption | refine Blk.drew ?_ | refine Blk.drewN ?_ _ | apply Blk.set | (refine Blk.new ?_; focus (first | rfl | (simp; done))) | refine Blk.alloc ?_ _ | refine Blk.other ?_ ?_ _) | exact eqL rfl | (refine neB ?_; omega)))
  have Bo : Blk W15 (w.heap.size + 1 + 1) [.int .i64 m0a, .int .i64 m0b, .int .i64 m0c, .int .i64 m1a, .int .i64 m1b, .int .i64 m1c, .int .i64 m2a, .int .i64 m2b, .int .i64 m2c, .int .i64 m3a, .int .i64 m3b, .int .i64 m3c, .int .i64 m4a, .int .i64 m4b, .int .i64 m4c, .int .i64 m5a, .int .i64 m5b, .int .i64 m5c, .int .i64 m6a, .int .i64 m6b, .int .i64 m6c, .int .i64 m7a, .int .i64 m7b, .int .i64 m7c, .int .i64 m8a, .int .i64 m8b, .int .i64 m8c, .int .i64 m9a, .int .i64 m9b, .int .i64 m9c, .int .i64 m10a, .int .i64 m10b, .int .i64 m10c, .int .i64 m11a, .int .i64 m11b, .int .i64 m11c, .int .i64 m12a, .int .i64 m12b, .int .i64 m12c, .int .i64 m13a, .int .i64 m13b, .int .i64 m13c, .int .i64 0, .int .i64 0, .int .i64 0, .int .i64 0, .int .i64 0, .int .i64 0] := Blk.keep hb (by repeat' (first | (with_reducible first | assumption | refine Blk.drew ?_ | refine Blk.drewN ?_ _ | apply Blk.set | (refine Blk.new ?_; focus (first | rfl | (simp; done))) | refine Blk.alloc ?_ _ | refine Blk.other ?_ ?_ _) | exact eqL rfl | (refine neB ?_; omega)))
  have ca := Ba.cell
  have fa := Ba.free
  have la_W15 := Ba.lt
  have cr := Br.cell
  have fr := Br.free
  have lr_W15 := Br.lt
  have co := Bo.cell
  have fo := Bo.free
  have lo_W15 := Bo.lt
  have kaW15 : Acc w W15 := by
    refine Acc.call ?_ hb
    (repeat' (first | (with_reducible first | assumption | exact Acc.refl _ | refine Acc.drew ?_ | refine Acc.drewN ?_ _ | refine Acc.alloc ?_ _ | refine Acc.setCell ?_ ?_ _) | (refine leB ?_; omega)))
  clear hb
  go_wp2_with fail
  rw [rounds_succ]
  go_wp2_with fail
  refine (toFrac_any m15a m15b m15c _).mono ?_
  rintro e W16 ⟨rfl, hb⟩
  have Ba : Blk W16 (w.heap.size) [.int .i64 m0a, .int .i64 m0b, .int .i64 m0c, .int .i64 m1a, .int .i64 m1b, .int .i64 m1c, .int .i64 m2a, .int .i64 m2b, .int .i64 m2c, .int .i64 m3a, .int .i64 m3b, .int .i64 m3c, .int .i64 m4a, .int .i64 m4b, .int .i64 m4c, .int .i64 m5a, .int .i64 m5b, .int .i64 m5c, .int .i64 m6a, .int .i64 m6b, .int .i64 m6c, .int .i64 m7a, .int .i64 m7b, .int .i64 m7c, .int .i64 m8a, .int .i64 m8b, .int .i64 m8c, .int .i64 m9a, .int .i64 m9b, .int .i64 m9c, .int .i64 m10a, .int .i64 m10b, .int .i64 m10c, .int .i64 m11a, .int .i64 m11b, .int .i64 m11c, .int .i64 m12a, .int .i64 m12b, .int .i64 m12c, .int .i64 m13a, .int .i64 m13b, .int .i64 m13c, .int .i64 m14a, .int .i64 m14b, .int .i64 m14c, .int .i64 m15a, .int .i64 m15b, .int .i64 m15c] := Blk.keep hb (by repeat' (first | (with_reducible first | assumption | refine Blk.drew ?_ | refine Blk.drewN ?_ _ | apply Blk.set | (refine Blk.new ?_; focus (first | rfl | (simp; done))) | refine Blk.alloc ?_ _ | refine Blk.other ?_ ?_ _) | exact eqL rfl | (refine neB ?_; omega)))
  have Br : Blk W16 (w.heap.size + 1) [.int .i64 0, .int .i64 0, .int .i64 0, .int .i64 0, .int .i64 0, .int .i64 0, .int .i64 0, .int .i64 0, .int .i64 0, .int .i64 0, .int .i64 0, .int .i64 0, .int .i64 0, .int .i64 0, .int .i64 0, .int .i64 0, .int .i64 0, .int .i64 0, .int .i64 0, .int .i64 0, .int .i64 0, .int .i64 0, .int .i64 0, .int .i64 0, .int .i64 0, .int .i64 0, .int .i64 0, .int .i64 0, .int .i64 0, .int .i64 0, .int .i64 0, .int .i64 0, .int .i64 0, .int .i64 0, .int .i64 0, .int .i64 0, .int .i64 0, .int .i64 0, .int .i64 0, .int .i64 0, .int .i64 0, .int .i64 0, .int .i64 0, .int .i64 0, .int .i64 0, .int .i64 0, .int .i64 0, .int .i64 0] := Blk.keep hb (by repeat' (first | (with_reducible first | assumption | refine Blk.drew ?_ | refine Blk.drewN ?_ _ | apply Blk.set | (refine Blk.new ?_; focus (first | rfl | (simp; done))) | refine Blk.alloc ?_ _ | refine Blk.other ?_ ?_ _) | exact eqL rfl | (refine neB ?_; omega)))
  have Bo : Blk W16 (w.heap.size + 1 + 1) [.int .i64 m0a, .int .i64 m0b, .int .i64 m0c, .int .i64 m1a, .int .i64 m1b, .int .i64 m1c, .int .i64 m2a, .int .i64 m2b, .int .i64 m2c, .int .i64 m3a, .int .i64 m3b, .int .i64 m3c, .int .i64 m4a, .int .i64 m4b, .int .i64 m4c, .int .i64 m5a, .int .i64 m5b, .int .i64 m5c, .int .i64 m6a, .int .i64 m6b, .int .i64 m6c, .int .i64 m7a, .int .i64 m7b, .int .i64 m7c, .int .i64 m8a, .int .i64 m8b, .int .i64 m8c, .int .i64 m9a, .int .i64 m9b, .int .i64 m9c, .int .i64 m10a, .int .i64 m10b, .int .i64 m10c, .int .i64 m11a, .int .i64 m11b, .int .i64 m11c, .int .i64 m12a, .int .i64 m12b, .int .i64 m12c, .int .i64 m13a, .int .i64 m13b, .int .i64 m13c, .int .i64 m14a, .int .i64 m14b, .int .i64 m14c, .int .i64 0, .int .i64 0, .int .i64 0] := Blk.keep hb (by repeat' (first | (with_reducible first | assumption | refine Blk.drew ?_ | refine Blk.drewN ?_ _ | apply Blk.set | (refine Blk.new ?_; focus (first | rfl | (simp; done))) | refine Blk.alloc ?_ _ | refine Blk.other ?_ ?_ _) | exact eqL rfl | (refine neB ?_; omega)))
  have ca := Ba.cell
  have fa := Ba.free
  have la_W16 := Ba.lt
  have cr := Br.cell
  have fr := Br.free
  have lr_W16 := Br.lt
  have co := Bo.cell
  have fo := Bo.free
  have lo_W16 := Bo.lt
  have kaW16 : Acc w W16 := by
    refine Acc.call ?_ hb
    (repeat' (first | (with_reducible first | assumption | exact Acc.refl _ | refine Acc.drew ?_ | refine Acc.drewN ?_ _ | refine Acc.alloc ?_ _ | refine Acc.setCell ?_ ?_ _) | (refine leB ?_; omega)))
  clear hb
  go_wp2_with fail
  rw [rounds_succ]
  go_wp2_with (first | (refine wpList_load_mid rfl 36 _ rfl (w.heap.size + 1 + 1) 0 rfl [.int .i64 m0a, .int .i64 m0b, .int .i64 m0c, .int .i64 m1a, .int .i64 m1b, .int .i64 m1c, .int .i64 m2a, .int .i64 m2b, .int .i64 m2c, .int .i64 m3a, .int .i64 m3b, .int .i64 m3c, .int .i64 m4a, .int .i64 m4b, .int .i64 m4c, .int .i64 m5a, .int .i64 m5b, .int .i64 m5c, .int .i64 m6a, .int .i64 m6b, .int .i64 m6c, .int .i64 m7a, .int .i64 m7b, .int .i64 m7c, .int .i64 m8a, .int .i64 m8b, .int .i64 m8c, .int .i64 m9a, .int .i64 m9b, .int .i64 m9c, .int .i64 m10a, .int .i64 m10b, .int .i64 m10c, .int .i64 m11a, .int .i64 m11b, .int .i64 m11c, .int .i64 m12a, .int .i64 m12b, .int .i64 m12c, .int .i64 m13a, .int .i64 m13b, .int .i64 m13c, .int .i64 m14a, .int .i64 m14b, .int .i64 m14c, .int .i64 m15a, .int .i64 m15b, .int .i64 m15c] _ ?hc Tryd.underlying36 rfl HI1.out ?_) | (refine wpList_store_mid rfl 36 (.tmp 2) (.tmp 15) rfl (w.heap.size + 1) 0 #[.int .i64 m0a, .int .i64 m0b, .int .i64 m0c, .int .i64 m1a, .int .i64 m1b, .int .i64 m1c, .int .i64 m2a, .int .i64 m2b, .int .i64 m2c, .int .i64 m3a, .int .i64 m3b, .int .i64 m3c, .int .i64 m4a, .int .i64 m4b, .int .i64 m4c, .int .i64 m5a, .int .i64 m5b, .int .i64 m5c, .int .i64 m6a, .int .i64 m6b, .int .i64 m6c, .int .i64 m7a, .int .i64 m7b, .int .i64 m7c, .int .i64 m8a, .int .i64 m8b, .int .i64 m8c, .int .i64 m9a, .int .i64 m9b, .int .i64 m9c, .int .i64 m10a, .int .i64 m10b, .int .i64 m10c, .int .i64 m11a, .int .i64 m11b, .int .i64 m11c, .int .i64 m12a, .int .i64 m12b, .int .i64 m12c, .int .i64 m13a, .int .i64 m13b, .int .i64 m13c, .int .i64 m14a, .int .i64 m14b, .int .i64 m14c, .int .i64 m15a, .int .i64 m15b, .int .i64 m15c] rfl rfl ?ht ?hi ?ho ?_))
  case hc =>
    refine range_of (Blk.cell ?_)
    (repeat' (first | (with_reducible first | assumption | refine Blk.drew ?_ | refine Blk.drewN ?_ _ | refine Blk.otherCells ?_ _ _ _ ?_ | apply Blk.set | (refine Blk.new ?_; focus (first | rfl | (simp; done))) | refine Blk.alloc ?_ _ | refine Blk.other ?_ ?_ _) | exact eqL rfl | (refine neB ?_; omega)))
  case ht =>
    refine there_of (vs := [.int .i64 0, .int .i64 0, .int .i64 0, .int .i64 0, .int .i64 0, .int .i64 0, .int .i64 0, .int .i64 0, .int .i64 0, .int .i64 0, .int .i64 0, .int .i64 0, .int .i64 0, .int .i64 0, .int .i64 0, .int .i64 0, .int .i64 0, .int .i64 0, .int .i64 0, .int .i64 0, .int .i64 0, .int .i64 0, .int .i64 0, .int .i64 0, .int .i64 0, .int .i64 0, .int .i64 0, .int .i64 0, .int .i64 0, .int .i64 0, .int .i64 0, .int .i64 0, .int .i64 0, .int .i64 0, .int .i64 0, .int .i64 0, .int .i64 0, .int .i64 0, .int .i64 0, .int .i64 0, .int .i64 0, .int .i64 0, .int .i64 0, .int .i64 0, .int .i64 0, .int .i64 0, .int .i64 0, .int .i64 0]) ?_ rfl
    (repeat' (first | (with_reducible first | assumption | refine Blk.drew ?_ | refine Blk.drewN ?_ _ | refine Blk.otherCells ?_ _ _ _ ?_ | apply Blk.set | (refine Blk.new ?_; focus (first | rfl | (simp; done))) | refine Blk.alloc ?_ _ | refine Blk.other ?_ ?_ _) | exact eqL rfl | (refine neB ?_; omega)))
  case hi => simpa using HI1.out
  case ho => (and_intros <;> rfl)
  refine bodyPost_ret (v := .agg #[.int .i64 m0a, .int .i64 m0b, .int .i64 m0c, .int .i64 m1a, .int .i64 m1b, .int .i64 m1c, .int .i64 m2a, .int .i64 m2b, .int .i64 m2c, .int .i64 m3a, .int .i64 m3b, .int .i64 m3c, .int .i64 m4a, .int .i64 m4b, .int .i64 m4c, .int .i64 m5a, .int .i64 m5b, .int .i64 m5c, .int .i64 m6a, .int .i64 m6b, .int .i64 m6c, .int .i64 m7a, .int .i64 m7b, .int .i64 m7c, .int .i64 m8a, .int .i64 m8b, .int .i64 m8c, .int .i64 m9a, .int .i64 m9b, .int .i64 m9c, .int .i64 m10a, .int .i64 m10b, .int .i64 m10c, .int .i64 m11a, .int .i64 m11b, .int .i64 m11c, .int .i64 m12a, .int .i64 m12b, .int .i64 m12c, .int .i64 m13a, .int .i64 m13b, .int .i64 m13c, .int .i64 m14a, .int .i64 m14b, .int .i64 m14c, .int .i64 m15a, .int .i64 m15b, .int .i64 m15c]) ?hr rfl ⟨rfl, ?_⟩
  case hr =>
    refine results_blk (vs := [.int .i64 m0a, .int .i64 m0b, .int .i64 m0c, .int .i64 m1a, .int .i64 m1b, .int .i64 m1c, .int .i64 m2a, .int .i64 m2b, .int .i64 m2c, .int .i64 m3a, .int .i64 m3b, .int .i64 m3c, .int .i64 m4a, .int .i64 m4b, .int .i64 m4c, .int .i64 m5a, .int .i64 m5b, .int .i64 m5c, .int .i64 m6a, .int .i64 m6b, .int .i64 m6c, .int .i64 m7a, .int .i64 m7b, .int .i64 m7c, .int .i64 m8a, .int .i64 m8b, .int .i64 m8c, .int .i64 m9a, .int .i64 m9b, .int .i64 m9c, .int .i64 m10a, .int .i64 m10b, .int .i64 m10c, .int .i64 m11a, .int .i64 m11b, .int .i64 m11c, .int .i64 m12a, .int .i64 m12b, .int .i64 m12c, .int .i64 m13a, .int .i64 m13b, .int .i64 m13c, .int .i64 m14a, .int .i64 m14b, .int .i64 m14c, .int .i64 m15a, .int .i64 m15b, .int .i64 m15c]) (d := _) Tryd.results20 _ _ (w.heap.size + 1) ?_ ?_ Tryd.underlying36 rfl ?_
    · refine Blk.setCells (vs := [.int .i64 0, .int .i64 0, .int .i64 0, .int .i64 0, .int .i64 0, .int .i64 0, .int .i64 0, .int .i64 0, .int .i64 0, .int .i64 0, .int .i64 0, .int .i64 0, .int .i64 0, .int .i64 0, .int .i64 0, .int .i64 0, .int .i64 0, .int .i64 0, .int .i64 0, .int .i64 0, .int .i64 0, .int .i64 0, .int .i64 0, .int .i64 0, .int .i64 0, .int .i64 0, .int .i64 0, .int .i64 0, .int .i64 0, .int .i64 0, .int .i64 0, .int .i64 0, .int .i64 0, .int .i64 0, .int .i64 0, .int .i64 0, .int .i64 0, .int .i64 0, .int .i64 0, .int .i64 0, .int .i64 0, .int .i64 0, .int .i64 0, .int .i64 0, .int .i64 0, .int .i64 0, .int .i64 0, .int .i64 0]) ?_ rfl
      (repeat' (first | (with_reducible first | assumption | refine Blk.drew ?_ | refine Blk.drewN ?_ _ | refine Blk.otherCells ?_ _ _ _ ?_ | apply Blk.set | (refine Blk.new ?_; focus (first | rfl | (simp; done))) | refine Blk.alloc ?_ _ | refine Blk.other ?_ ?_ _) | exact eqL rfl | (refine neB ?_; omega)))
    · rfl
    · exact HI1.out
  show Acc w _
  (repeat' (first | (with_reducible first | assumption | exact Acc.refl _ | refine Acc.drew ?_ | refine Acc.drewN ?_ _ | refine Acc.alloc ?_ _ | refine Acc.setCells ?_ _ _ _ ?_ | refine Acc.setCell ?_ ?_ _) | (refine leB ?_; omega)))
set_option maxRecDepth 100000 in
set_option maxHeartbeats 8000000 in
theorem toTable_any (m0a m0b m0c m1a m1b m1c m2a m2b m2c m3a m3b m3c m4a m4b m4c m5a m5b m5c m6a m6b m6c m7a m7b m7c m8a m8b m8c m9a m9b m9c m10a m10b m10c m11a m11b m11c m12a m12b m12c m13a m13b m13c m14a m14b m14c m15a m15b m15c : Int) (w : World) :
    Calls Tryd.prog 7 #[.agg #[.int .i64 m0a, .int .i64 m0b, .int .i64 m0c, .int .i64 m1a, .int .i64 m1b, .int .i64 m1c, .int .i64 m2a, .int .i64 m2b, .int .i64 m2c, .int .i64 m3a, .int .i64 m3b, .int .i64 m3c, .int .i64 m4a, .int .i64 m4b, .int .i64 m4c, .int .i64 m5a, .int .i64 m5b, .int .i64 m5c, .int .i64 m6a, .int .i64 m6b, .int .i64 m6c, .int .i64 m7a, .int .i64 m7b, .int .i64 m7c, .int .i64 m8a, .int .i64 m8b, .int .i64 m8c, .int .i64 m9a, .int .i64 m9b, .int .i64 m9c, .int .i64 m10a, .int .i64 m10b, .int .i64 m10c, .int .i64 m11a, .int .i64 m11b, .int .i64 m11c, .int .i64 m12a, .int .i64 m12b, .int .i64 m12c, .int .i64 m13a, .int .i64 m13b, .int .i64 m13c, .int .i64 m14a, .int .i64 m14b, .int .i64 m14c, .int .i64 m15a, .int .i64 m15b, .int .i64 m15c]] w fun e w' => e = .returned (.agg #[.int .i64 m0a, .int .i64 m0b, .int .i64 m0c, .int .i64 m1a, .int .i64 m1b, .int .i64 m1c, .int .i64 m2a, .int .i64 m2b, .int .i64 m2c, .int .i64 m3a, .int .i64 m3b, .int .i64 m3c, .int .i64 m4a, .int .i64 m4b, .int .i64 m4c, .int .i64 m5a, .int .i64 m5b, .int .i64 m5c, .int .i64 m6a, .int .i64 m6b, .int .i64 m6c, .int .i64 m7a, .int .i64 m7b, .int .i64 m7c, .int .i64 m8a, .int .i64 m8b, .int .i64 m8c, .int .i64 m9a, .int .i64 m9b, .int .i64 m9c, .int .i64 m10a, .int .i64 m10b, .int .i64 m10c, .int .i64 m11a, .int .i64 m11b, .int .i64 m11c, .int .i64 m12a, .int .i64 m12b, .int .i64 m12c, .int .i64 m13a, .int .i64 m13b, .int .i64 m13c, .int .i64 m14a, .int .i64 m14b, .int .i64 m14c, .int .i64 m15a, .int .i64 m15b, .int .i64 m15c]) ∧ Below w.heap.size w w' := by
  have HI1 : RowKit.Hid ((Tryd.prog.info? 24).map (·.size) = some 48) := Lib.hid (by kernel_rfl)
  have HI2 : RowKit.Hid ((Tryd.prog.info? 36).map (·.size) = some 48) := Lib.hid (by kernel_rfl)
  have HI3 : RowKit.Hid ((Tryd.prog.info? 38).map (·.size) = some 48) := Lib.hid (by kernel_rfl)
  go_enter Tryd.func7, Tryd.ntmps7
  go_wp2_with (refine wpList_load_mid rfl 24 _ rfl (w.heap.size) 0 rfl [.int .i64 m0a, .int .i64 m0b, .int .i64 m0c, .int .i64 m1a, .int .i64 m1b, .int .i64 m1c, .int .i64 m2a, .int .i64 m2b, .int .i64 m2c, .int .i64 m3a, .int .i64 m3b, .int .i64 m3c, .int .i64 m4a, .int .i64 m4b, .int .i64 m4c, .int .i64 m5a, .int .i64 m5b, .int .i64 m5c, .int .i64 m6a, .int .i64 m6b, .int .i64 m6c, .int .i64 m7a, .int .i64 m7b, .int .i64 m7c, .int .i64 m8a, .int .i64 m8b, .int .i64 m8c, .int .i64 m9a, .int .i64 m9b, .int .i64 m9c, .int .i64 m10a, .int .i64 m10b, .int .i64 m10c, .int .i64 m11a, .int .i64 m11b, .int .i64 m11c, .int .i64 m12a, .int .i64 m12b, .int .i64 m12c, .int .i64 m13a, .int .i64 m13b, .int .i64 m13c, .int .i64 m14a, .int .i64 m14b, .int .i64 m14c, .int .i64 m15a, .int .i64 m15b, .int .i64 m15c] _ ?hc Tryd.underlying24 rfl HI1.out ?_)
  case hc =>
    refine range_of (Blk.cell ?_)
    (repeat' (first | (with_reducible first | assumption | refine Blk.drew ?_ | refine Blk.drewN ?_ _ | refine Blk.otherCells ?_ _ _ _ ?_ | apply Blk.set | (refine Blk.new ?_; focus (first | rfl | (simp; done))) | refine Blk.alloc ?_ _ | refine Blk.other ?_ ?_ _) | exact eqL rfl | (refine neB ?_; omega)))
  refine (toFracA16_any m0a m0b m0c m1a m1b m1c m2a m2b m2c m3a m3b m3c m4a m4b m4c m5a m5b m5c m6a m6b m6c m7a m7b m7c m8a m8b m8c m9a m9b m9c m10a m10b m10c m11a m11b m11c m12a m12b m12c m13a m13b m13c m14a m14b m14c m15a m15b m15c _).mono ?_
  rintro e W1 ⟨rfl, hb⟩
  have Ba : Blk W1 (w.heap.size) [.int .i64 m0a, .int .i64 m0b, .int .i64 m0c, .int .i64 m1a, .int .i64 m1b, .int .i64 m1c, .int .i64 m2a, .int .i64 m2b, .int .i64 m2c, .int .i64 m3a, .int .i64 m3b, .int .i64 m3c, .int .i64 m4a, .int .i64 m4b, .int .i64 m4c, .int .i64 m5a, .int .i64 m5b, .int .i64 m5c, .int .i64 m6a, .int .i64 m6b, .int .i64 m6c, .int .i64 m7a, .int .i64 m7b, .int .i64 m7c, .int .i64 m8a, .int .i64 m8b, .int .i64 m8c, .int .i64 m9a, .int .i64 m9b, .int .i64 m9c, .int .i64 m10a, .int .i64 m10b, .int .i64 m10c, .int .i64 m11a, .int .i64 m11b, .int .i64 m11c, .int .i64 m12a, .int .i64 m12b, .int .i64 m12c, .int .i64 m13a, .int .i64 m13b, .int .i64 m13c, .int .i64 m14a, .int .i64 m14b, .int .i64 m14c, .int .i64 m15a, .int .i64 m15b, .int .i64 m15c] := Blk.keep hb (by repeat' (first | (with_reducible first | assumption | refine Blk.drew ?_ | refine Blk.drewN ?_ _ | apply Blk.set | (refine Blk.new ?_; focus (first | rfl | (simp; done))) | refine Blk.alloc ?_ _ | refine Blk.other ?_ ?_ _) | exact eqL rfl | (refine neB ?_; omega)))
  have Br : Blk W1 (w.heap.size + 1) [.int .i64 0, .int .i64 0, .int .i64 0, .int .i64 0, .int .i64 0, .int .i64 0, .int .i64 0, .int .i64 0, .int .i64 0, .int .i64 0, .int .i64 0, .int .i64 0, .int .i64 0, .int .i64 0, .int .i64 0, .int .i64 0, .int .i64 0, .int .i64 0, .int .i64 0, .int .i64 0, .int .i64 0, .int .i64 0, .int .i64 0, .int .i64 0, .int .i64 0, .int .i64 0, .int .i64 0, .int .i64 0, .int .i64 0, .int .i64 0, .int .i64 0, .int .i64 0, .int .i64 0, .int .i64 0, .int .i64 0, .int .i64 0, .int .i64 0, .int .i64 0, .int .i64 0, .int .i64 0, .int .i64 0, .int .i64 0, .int .i64 0, .int .i64 0, .int .i64 0, .int .i64 0, .int .i64 0, .int .i64 0] := Blk.keep hb (by repeat' (first | (with_reducible first | assumption | refine Blk.drew ?_ | refine Blk.drewN ?_ _ | apply Blk.set | (refine Blk.new ?_; focus (first | rfl | (simp; done))) | refine Blk.alloc ?_ _ | refine Blk.other ?_ ?_ _) | exact eqL rfl | (refine neB ?_; omega)))
  have Bo : Blk W1 (w.heap.size + 1 + 1) [.int .i64 0, .int .i64 0, .int .i64 0, .int .i64 0, .int .i64 0, .int .i64 0, .int .i64 0, .int .i64 0, .int .i64 0, .int .i64 0, .int .i64 0, .int .i64 0, .int .i64 0, .int .i64 0, .int .i64 0, .int .i64 0, .int .i64 0, .int .i64 0, .int .i64 0, .int .i64 0, .int .i64 0, .int .i64 0, .int .i64 0, .int .i64 0, .int .i64 0, .int .i64 0, .int .i64 0, .int .i64 0, .int .i64 0, .int .i64 0, .int .i64 0, .int .i64 0, .int .i64 0, .int .i64 0, .int .i64 0, .int .i64 0, .int .i64 0, .int .i64 0, .int .i64 0, .int .i64 0, .int .i64 0, .int .i64 0, .int .i64 0, .int .i64 0, .int .i64 0, .int .i64 0, .int .i64 0, .int .i64 0] := Blk.keep hb (by repeat' (first | (with_reducible first | assumption | refine Blk.drew ?_ | refine Blk.drewN ?_ _ | apply Blk.set | (refine Blk.new ?_; focus (first | rfl | (simp; done))) | refine Blk.alloc ?_ _ | refine Blk.other ?_ ?_ _) | exact eqL rfl | (refine neB ?_; omega)))
  have ca := Ba.cell
  have fa := Ba.free
  have la_W1 := Ba.lt
  have cr := Br.cell
  have fr := Br.free
  have lr_W1 := Br.lt
  have co := Bo.cell
  have fo := Bo.free
  have lo_W1 := Bo.lt
  have kaW1 : Acc w W1 := by
    refine Acc.call ?_ hb
    (repeat' (first | (with_reducible first | assumption | exact Acc.refl _ | refine Acc.drew ?_ | refine Acc.drewN ?_ _ | refine Acc.alloc ?_ _ | refine Acc.setCell ?_ ?_ _) | (refine leB ?_; omega)))
  clear hb
  go_wp2_with (first | (refine wpList_store_mid rfl 36 (.tmp 7) (.tmp 6) rfl (w.heap.size + 1 + 1) 0 #[.int .i64 m0a, .int .i64 m0b, .int .i64 m0c, .int .i64 m1a, .int .i64 m1b, .int .i64 m1c, .int .i64 m2a, .int .i64 m2b, .int .i64 m2c, .int .i64 m3a, .int .i64 m3b, .int .i64 m3c, .int .i64 m4a, .int .i64 m4b, .int .i64 m4c, .int .i64 m5a, .int .i64 m5b, .int .i64 m5c, .int .i64 m6a, .int .i64 m6b, .int .i64 m6c, .int .i64 m7a, .int .i64 m7b, .int .i64 m7c, .int .i64 m8a, .int .i64 m8b, .int .i64 m8c, .int .i64 m9a, .int .i64 m9b, .int .i64 m9c, .int .i64 m10a, .int .i64 m10b, .int .i64 m10c, .int .i64 m11a, .int .i64 m11b, .int .i64 m11c, .int .i64 m12a, .int .i64 m12b, .int .i64 m12c, .int .i64 m13a, .int .i64 m13b, .int .i64 m13c, .int .i64 m14a, .int .i64 m14b, .int .i64 m14c, .int .i64 m15a, .int .i64 m15b, .int .i64 m15c] rfl rfl ?ht ?hi ?ho ?_) | (refine wpList_load_mid rfl 38 _ rfl (w.heap.size + 1 + 1) 0 rfl [.int .i64 m0a, .int .i64 m0b, .int .i64 m0c, .int .i64 m1a, .int .i64 m1b, .int .i64 m1c, .int .i64 m2a, .int .i64 m2b, .int .i64 m2c, .int .i64 m3a, .int .i64 m3b, .int .i64 m3c, .int .i64 m4a, .int .i64 m4b, .int .i64 m4c, .int .i64 m5a, .int .i64 m5b, .int .i64 m5c, .int .i64 m6a, .int .i64 m6b, .int .i64 m6c, .int .i64 m7a, .int .i64 m7b, .int .i64 m7c, .int .i64 m8a, .int .i64 m8b, .int .i64 m8c, .int .i64 m9a, .int .i64 m9b, .int .i64 m9c, .int .i64 m10a, .int .i64 m10b, .int .i64 m10c, .int .i64 m11a, .int .i64 m11b, .int .i64 m11c, .int .i64 m12a, .int .i64 m12b, .int .i64 m12c, .int .i64 m13a, .int .i64 m13b, .int .i64 m13c, .int .i64 m14a, .int .i64 m14b, .int .i64 m14c, .int .i64 m15a, .int .i64 m15b, .int .i64 m15c] _ ?hc2 Tryd.underlying38 rfl HI3.out ?_) | (refine wpList_store_mid rfl 38 (.tmp 2) (.tmp 8) rfl (w.heap.size + 1) 0 #[.int .i64 m0a, .int .i64 m0b, .int .i64 m0c, .int .i64 m1a, .int .i64 m1b, .int .i64 m1c, .int .i64 m2a, .int .i64 m2b, .int .i64 m2c, .int .i64 m3a, .int .i64 m3b, .int .i64 m3c, .int .i64 m4a, .int .i64 m4b, .int .i64 m4c, .int .i64 m5a, .int .i64 m5b, .int .i64 m5c, .int .i64 m6a, .int .i64 m6b, .int .i64 m6c, .int .i64 m7a, .int .i64 m7b, .int .i64 m7c, .int .i64 m8a, .int .i64 m8b, .int .i64 m8c, .int .i64 m9a, .int .i64 m9b, .int .i64 m9c, .int .i64 m10a, .int .i64 m10b, .int .i64 m10c, .int .i64 m11a, .int .i64 m11b, .int .i64 m11c, .int .i64 m12a, .int .i64 m12b, .int .i64 m12c, .int .i64 m13a, .int .i64 m13b, .int .i64 m13c, .int .i64 m14a, .int .i64 m14b, .int .i64 m14c, .int .i64 m15a, .int .i64 m15b, .int .i64 m15c] rfl rfl ?ht2 ?hi2 ?ho2 ?_))
  case ht =>
    refine there_of (vs := [.int .i64 0, .int .i64 0, .int .i64 0, .int .i64 0, .int .i64 0, .int .i64 0, .int .i64 0, .int .i64 0, .int .i64 0, .int .i64 0, .int .i64 0, .int .i64 0, .int .i64 0, .int .i64 0, .int .i64 0, .int .i64 0, .int .i64 0, .int .i64 0, .int .i64 0, .int .i64 0, .int .i64 0, .int .i64 0, .int .i64 0, .int .i64 0, .int .i64 0, .int .i64 0, .int .i64 0, .int .i64 0, .int .i64 0, .int .i64 0, .int .i64 0, .int .i64 0, .int .i64 0, .int .i64 0, .int .i64 0, .int .i64 0, .int .i64 0, .int .i64 0, .int .i64 0, .int .i64 0, .int .i64 0, .int .i64 0, .int .i64 0, .int .i64 0, .int .i64 0, .int .i64 0, .int .i64 0, .int .i64 0]) ?_ rfl
    (repeat' (first | (with_reducible first | assumption | refine Blk.drew ?_ | refine Blk.drewN ?_ _ | refine Blk.otherCells ?_ _ _ _ ?_ | apply Blk.set | (refine Blk.new ?_; focus (first | rfl | (simp; done))) | refine Blk.alloc ?_ _ | refine Blk.other ?_ ?_ _) | exact eqL rfl | (refine neB ?_; omega)))
  case hi => simpa using HI2.out
  case ho => (and_intros <;> rfl)
  case hc2 =>
    refine range_of (Blk.cell (Blk.setCells (vs := [.int .i64 0, .int .i64 0, .int .i64 0, .int .i64 0, .int .i64 0, .int .i64 0, .int .i64 0, .int .i64 0, .int .i64 0, .int .i64 0, .int .i64 0, .int .i64 0, .int .i64 0, .int .i64 0, .int .i64 0, .int .i64 0, .int .i64 0, .int .i64 0, .int .i64 0, .int .i64 0, .int .i64 0, .int .i64 0, .int .i64 0, .int .i64 0, .int .i64 0, .int .i64 0, .int .i64 0, .int .i64 0, .int .i64 0, .int .i64 0, .int .i64 0, .int .i64 0, .int .i64 0, .int .i64 0, .int .i64 0, .int .i64 0, .int .i64 0, .int .i64 0, .int .i64 0, .int .i64 0, .int .i64 0, .int .i64 0, .int .i64 0, .int .i64 0, .int .i64 0, .int .i64 0, .int .i64 0, .int .i64 0]) ?_ rfl))
    (repeat' (first | (with_reducible first | assumption | refine Blk.drew ?_ | refine Blk.drewN ?_ _ | refine Blk.otherCells ?_ _ _ _ ?_ | apply Blk.set | (refine Blk.new ?_; focus (first | rfl | (simp; done))) | refine Blk.alloc ?_ _ | refine Blk.other ?_ ?_ _) | exact eqL rfl | (refine neB ?_; omega)))
  case ht2 =>
    refine there_of (vs := [.int .i64 0, .int .i64 0, .int .i64 0, .int .i64 0, .int .i64 0, .int .i64 0, .int .i64 0, .int .i64 0, .int .i64 0, .int .i64 0, .int .i64 0, .int .i64 0, .int .i64 0, .int .i64 0, .int .i64 0, .int .i64 0, .int .i64 0, .int .i64 0, .int .i64 0, .int .i64 0, .int .i64 0, .int .i64 0, .int .i64 0, .int .i64 0, .int .i64 0, .int .i64 0, .int .i64 0, .int .i64 0, .int .i64 0, .int .i64 0, .int .i64 0, .int .i64 0, .int .i64 0, .int .i64 0, .int .i64 0, .int .i64 0, .int .i64 0, .int .i64 0, .int .i64 0, .int .i64 0, .int .i64 0, .int .i64 0, .int .i64 0, .int .i64 0, .int .i64 0, .int .i64 0, .int .i64 0, .int .i64 0]) ?_ rfl
    (repeat' (first | (with_reducible first | assumption | refine Blk.drew ?_ | refine Blk.drewN ?_ _ | refine Blk.otherCells ?_ _ _ _ ?_ | apply Blk.set | (refine Blk.new ?_; focus (first | rfl | (simp; done))) | refine Blk.alloc ?_ _ | refine Blk.other ?_ ?_ _) | exact eqL rfl | (refine neB ?_; omega)))
  case hi2 => simpa using HI3.out
  case ho2 => (and_intros <;> rfl)
  refine bodyPost_ret (v := .agg #[.int .i64 m0a, .int .i64 m0b, .int .i64 m0c, .int .i64 m1a, .int .i64 m1b, .int .i64 m1c, .int .i64 m2a, .int .i64 m2b, .int .i64 m2c, .int .i64 m3a, .int .i64 m3b, .int .i64 m3c, .int .i64 m4a, .int .i64 m4b, .int .i64 m4c, .int .i64 m5a, .int .i64 m5b, .int .i64 m5c, .int .i64 m6a, .int .i64 m6b, .int .i64 m6c, .int .i64 m7a, .int .i64 m7b, .int .i64 m7c, .int .i64 m8a, .int .i64 m8b, .int .i64 m8c, .int .i64 m9a, .int .i64 m9b, .int .i64 m9c, .int .i64 m10a, .int .i64 m10b, .int .i64 m10c, .int .i64 m11a, .int .i64 m11b, .int .i64 m11c, .int .i64 m12a, .int .i64 m12b, .int .i64 m12c, .int .i64 m13a, .int .i64 m13b, .int .i64 m13c, .int .i64 m14a, .int .i64 m14b, .int .i64 m14c, .int .i64 m15a, .int .i64 m15b, .int .i64 m15c]) ?hr rfl ⟨rfl, ?_⟩
  case hr =>
    refine results_blk (vs := [.int .i64 m0a, .int .i64 m0b, .int .i64 m0c, .int .i64 m1a, .int .i64 m1b, .int .i64 m1c, .int .i64 m2a, .int .i64 m2b, .int .i64 m2c, .int .i64 m3a, .int .i64 m3b, .int .i64 m3c, .int .i64 m4a, .int .i64 m4b, .int .i64 m4c, .int .i64 m5a, .int .i64 m5b, .int .i64 m5c, .int .i64 m6a, .int .i64 m6b, .int .i64 m6c, .int .i64 m7a, .int .i64 m7b, .int .i64 m7c, .int .i64 m8a, .int .i64 m8b, .int .i64 m8c, .int .i64 m9a, .int .i64 m9b, .int .i64 m9c, .int .i64 m10a, .int .i64 m10b, .int .i64 m10c, .int .i64 m11a, .int .i64 m11b, .int .i64 m11c, .int .i64 m12a, .int .i64 m12b, .int .i64 m12c, .int .i64 m13a, .int .i64 m13b, .int .i64 m13c, .int .i64 m14a, .int .i64 m14b, .int .i64 m14c, .int .i64 m15a, .int .i64 m15b, .int .i64 m15c]) (d := _) Tryd.results7 _ _ (w.heap.size + 1) ?_ ?_ Tryd.underlying38 rfl ?_
    · refine Blk.setCells (vs := [.int .i64 0, .int .i64 0, .int .i64 0, .int .i64 0, .int .i64 0, .int .i64 0, .int .i64 0, .int .i64 0, .int .i64 0, .int .i64 0, .int .i64 0, .int .i64 0, .int .i64 0, .int .i64 0, .int .i64 0, .int .i64 0, .int .i64 0, .int .i64 0, .int .i64 0, .int .i64 0, .int .i64 0, .int .i64 0, .int .i64 0, .int .i64 0, .int .i64 0, .int .i64 0, .int .i64 0, .int .i64 0, .int .i64 0, .int .i64 0, .int .i64 0, .int .i64 0, .int .i64 0, .int .i64 0, .int .i64 0, .int .i64 0, .int .i64 0, .int .i64 0, .int .i64 0, .int .i64 0, .int .i64 0, .int .i64 0, .int .i64 0, .int .i64 0, .int .i64 0, .int .i64 0, .int .i64 0, .int .i64 0]) ?_ rfl
      (repeat' (first | (with_reducible first | assumption | refine Blk.drew ?_ | refine Blk.drewN ?_ _ | refine Blk.otherCells ?_ _ _ _ ?_ | apply Blk.set | (refine Blk.new ?_; focus (first | rfl | (simp; done))) | refine Blk.alloc ?_ _ | refine Blk.other ?_ ?_ _) | exact eqL rfl | (refine neB ?_; omega)))
    · rfl
    · exact HI3.out
  show Acc w _
  (repeat' (first | (with_reducible first | assumption | exact Acc.refl _ | refine Acc.drew ?_ | refine Acc.drewN ?_ _ | refine Acc.alloc ?_ _ | refine Acc.setCells ?_ _ _ _ ?_ | refine Acc.setCell ?_ ?_ _) | (refine leB ?_; omega)))
end Go.Proofs.YtgmpbdndkjnbfaaDoor
