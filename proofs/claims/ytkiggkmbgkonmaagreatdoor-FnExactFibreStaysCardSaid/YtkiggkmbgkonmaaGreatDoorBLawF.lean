/-
  What the exact laws do with fractions and vectors.
-/
import Derived.Test.YtkiggkmbgkonmaaGreatDoorBMem
namespace Go.Proofs.YtkiggkmbgkonmaaGreatDoor
open Go.ChangeShapes Go.WideShapes Go.ChangeAt Go.RowKit
set_option linter.unusedVariables false

set_option maxHeartbeats 1000000 in
theorem toFrac_any (x y z : Int) (w : World) :
    Calls Tryz.prog 33 #[.agg #[.int .i64 x, .int .i64 y, .int .i64 z]] w fun e w' => e = .returned (.agg #[.int .i64 x, .int .i64 y, .int .i64 z]) ∧ Below w.heap.size w w' := by
  go_enter Tryz.func33, Tryz.ntmps33
  go_wp2
  exact bodyPost_ret (v := .agg #[.int .i64 x, .int .i64 y, .int .i64 z]) (by simp [results, Tryz.results33, go_sem]) rfl
    ⟨rfl, (((Below.refl _ _).alloc (Nat.le_refl _) _).alloc (by simp) _).alloc (by simp; omega) _⟩


set_option maxHeartbeats 1000000 in
theorem eqFrac_any (x y z : Int) (w : World) :
    Calls Tryz.prog 39 #[.agg #[.int .i64 x, .int .i64 y, .int .i64 z], .agg #[.int .i64 x, .int .i64 y, .int .i64 z]] w fun e w' => e = .returned (.bool true) ∧ Below w.heap.size w w' := by
  go_enter Tryz.func39, Tryz.ntmps39
  go_wp2
  go_ret
  exact ⟨rfl, ((Below.refl _ _).alloc (Nat.le_refl _) _).alloc (by simp) _⟩


set_option maxHeartbeats 1000000 in
theorem toJones_any (x1 x2 x3 y1 y2 y3 : Int) (w : World) :
    Calls Tryz.prog 14 #[.agg #[.int .i64 x1, .int .i64 x2, .int .i64 x3, .int .i64 y1, .int .i64 y2, .int .i64 y3]] w fun e w' => e = .returned (.agg #[.int .i64 x1, .int .i64 x2, .int .i64 x3, .int .i64 y1, .int .i64 y2, .int .i64 y3]) ∧ Below w.heap.size w w' := by
  go_enter Tryz.func14, Tryz.ntmps14
  go_wp2_with fail
  refine (toFrac_any x1 x2 x3 _).mono ?_
  rintro e W1 ⟨rfl, hb⟩
  obtain ⟨c00, c01, c02, c03, c04, c05⟩ := keep6 hb (b := w.heap.size) (v0 := .int .i64 x1) (v1 := .int .i64 x2) (v2 := .int .i64 x3) (v3 := .int .i64 y1) (v4 := .int .i64 y2) (v5 := .int .i64 y3) (by go_simp)
  have cl0 : w.heap.size < W1.heap.size := World.block_lt_of_cell? _ _ c00
  obtain ⟨r0, r1, r2, r3, r4, r5⟩ := keep6 hb (b := w.heap.size + 1) (v0 := .int .i64 0) (v1 := .int .i64 0) (v2 := .int .i64 0) (v3 := .int .i64 0) (v4 := .int .i64 0) (v5 := .int .i64 0) (by go_simp)
  obtain ⟨f0, f1, f2, f3, f4, f5⟩ := keepf6 hb (b := w.heap.size + 1) (by go_simp) (by go_simp)
  have kz : w.heap.size + 1 < W1.heap.size := World.block_lt_of_cell? _ _ r0
  obtain ⟨or0, or1, or2, or3, or4, or5⟩ := keep6 hb (b := w.heap.size + 1 + 1) (v0 := .int .i64 0) (v1 := .int .i64 0) (v2 := .int .i64 0) (v3 := .int .i64 0) (v4 := .int .i64 0) (v5 := .int .i64 0) (by go_simp)
  obtain ⟨of0, of1, of2, of3, of4, of5⟩ := keepf6 hb (b := w.heap.size + 1 + 1) (by go_simp) (by go_simp)
  have okz : w.heap.size + 1 + 1 < W1.heap.size := World.block_lt_of_cell? _ _ or0
  have kaW1 : Acc w W1 := by
    refine Acc.call ?_ hb
    (repeat' (first | assumption | exact Acc.refl _ | refine Acc.drew ?_ | refine Acc.drewN ?_ _ | refine Acc.alloc ?_ _ | refine Acc.setCell ?_ (by omega) _))
  clear hb
  go_wp2_with fail
  refine (toFrac_any y1 y2 y3 _).mono ?_
  rintro e W2 ⟨rfl, hb⟩
  obtain ⟨g0, g1, g2, g3, g4, g5⟩ := keepf6 hb (b := w.heap.size + 1 + 1) (by go_simp) (by go_simp)
  obtain ⟨c00, c01, c02, c03, c04, c05⟩ := keep6 hb (b := w.heap.size + 1 + 1) (v0 := .int .i64 x1) (v1 := .int .i64 x2) (v2 := .int .i64 x3) (v3 := .int .i64 0) (v4 := .int .i64 0) (v5 := .int .i64 0) (by go_simp)
  have cl0 : w.heap.size + 1 + 1 < W2.heap.size := World.block_lt_of_cell? _ _ c00
  obtain ⟨r0, r1, r2, r3, r4, r5⟩ := keep6 hb (b := w.heap.size + 1) (v0 := .int .i64 0) (v1 := .int .i64 0) (v2 := .int .i64 0) (v3 := .int .i64 0) (v4 := .int .i64 0) (v5 := .int .i64 0) (by go_simp)
  obtain ⟨f0, f1, f2, f3, f4, f5⟩ := keepf6 hb (b := w.heap.size + 1) (by go_simp) (by go_simp)
  have kz : w.heap.size + 1 < W2.heap.size := World.block_lt_of_cell? _ _ r0
  have kaW2 : Acc w W2 := by
    refine Acc.call ?_ hb
    (repeat' (first | assumption | exact Acc.refl _ | refine Acc.drew ?_ | refine Acc.drewN ?_ _ | refine Acc.alloc ?_ _ | refine Acc.setCell ?_ (by omega) _))
  clear hb
  go_wp2_with fail
  refine bodyPost_ret (v := .agg #[.int .i64 x1, .int .i64 x2, .int .i64 x3, .int .i64 y1, .int .i64 y2, .int .i64 y3]) (by simp [results, Tryz.results14, go_sem, r0, r1, r2, r3, r4, r5]) rfl ⟨rfl, ?_⟩
  show Acc w _
  (repeat (refine Acc.setCell ?_ (by omega) _))
  assumption
set_option maxHeartbeats 1000000 in
theorem eqJones_any (x1 x2 x3 y1 y2 y3 : Int) (w : World) :
    Calls Tryz.prog 16 #[.agg #[.int .i64 x1, .int .i64 x2, .int .i64 x3, .int .i64 y1, .int .i64 y2, .int .i64 y3], .agg #[.int .i64 x1, .int .i64 x2, .int .i64 x3, .int .i64 y1, .int .i64 y2, .int .i64 y3]] w fun e w' => e = .returned (.bool true) ∧ Below w.heap.size w w' := by
  go_enter Tryz.func16, Tryz.ntmps16
  go_wp2_with fail
  refine (eqFrac_any x1 x2 x3 _).mono ?_
  rintro e W1 ⟨rfl, hb⟩
  obtain ⟨c00, c01, c02, c03, c04, c05⟩ := keep6 hb (b := w.heap.size) (v0 := .int .i64 x1) (v1 := .int .i64 x2) (v2 := .int .i64 x3) (v3 := .int .i64 y1) (v4 := .int .i64 y2) (v5 := .int .i64 y3) (by go_simp)
  have cl0 : w.heap.size < W1.heap.size := World.block_lt_of_cell? _ _ c00
  obtain ⟨c10, c11, c12, c13, c14, c15⟩ := keep6 hb (b := w.heap.size + 1) (v0 := .int .i64 x1) (v1 := .int .i64 x2) (v2 := .int .i64 x3) (v3 := .int .i64 y1) (v4 := .int .i64 y2) (v5 := .int .i64 y3) (by go_simp)
  have cl1 : w.heap.size + 1 < W1.heap.size := World.block_lt_of_cell? _ _ c10
  have kaW1 : Acc w W1 := by
    refine Acc.call ?_ hb
    (repeat' (first | assumption | exact Acc.refl _ | refine Acc.drew ?_ | refine Acc.drewN ?_ _ | refine Acc.alloc ?_ _ | refine Acc.setCell ?_ (by omega) _))
  clear hb
  go_wp2_with fail
  refine (eqFrac_any y1 y2 y3 _).mono ?_
  rintro e W2 ⟨rfl, hb⟩
  obtain ⟨c00, c01, c02, c03, c04, c05⟩ := keep6 hb (b := w.heap.size) (v0 := .int .i64 x1) (v1 := .int .i64 x2) (v2 := .int .i64 x3) (v3 := .int .i64 y1) (v4 := .int .i64 y2) (v5 := .int .i64 y3) (by go_simp)
  have cl0 : w.heap.size < W2.heap.size := World.block_lt_of_cell? _ _ c00
  obtain ⟨c10, c11, c12, c13, c14, c15⟩ := keep6 hb (b := w.heap.size + 1) (v0 := .int .i64 x1) (v1 := .int .i64 x2) (v2 := .int .i64 x3) (v3 := .int .i64 y1) (v4 := .int .i64 y2) (v5 := .int .i64 y3) (by go_simp)
  have cl1 : w.heap.size + 1 < W2.heap.size := World.block_lt_of_cell? _ _ c10
  have kaW2 : Acc w W2 := by
    refine Acc.call ?_ hb
    (repeat' (first | assumption | exact Acc.refl _ | refine Acc.drew ?_ | refine Acc.drewN ?_ _ | refine Acc.alloc ?_ _ | refine Acc.setCell ?_ (by omega) _))
  clear hb
  go_wp2_with fail
  go_ret
  exact ⟨rfl, kaW2⟩
end Go.Proofs.YtkiggkmbgkonmaaGreatDoor
