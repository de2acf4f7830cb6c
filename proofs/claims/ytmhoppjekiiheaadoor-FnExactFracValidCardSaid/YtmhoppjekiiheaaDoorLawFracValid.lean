/-
  The exact law of FracValid, out of both contracts.
-/
import Derived.Test.YtmhoppjekiiheaaDoorLawEq
import Derived.Test.YtmhoppjekiiheaaDoorSpecLow
namespace Go.Proofs.YtmhoppjekiiheaaDoor
open Go.ChangeShapes Go.WideShapes Go.ChangeAt Go.RowKit
set_option linter.unusedVariables false

set_option maxHeartbeats 2000000 in
theorem exactFracValid (k : Bool) (x y z : Int)
    (hs : ∀ w, Calls Tryd.prog 19 #[.agg #[.int .i64 x, .int .i64 y, .int .i64 z]] w fun e w' => e = .returned (.bool k) ∧ Below w.heap.size w w')
    (w : World) (hi : ∀ W, Acc w W → Calls Tryd.prog 21 #[.agg #[.int .i64 x, .int .i64 y, .int .i64 z]] W fun e w' => e = .returned (.bool k) ∧ Below W.heap.size W w') :
    Calls Tryd.prog 4 #[.agg #[.int .i64 x, .int .i64 y, .int .i64 z]] w (Fine w) := by
  have HS := Lib.hid hs
  have HI := Lib.hid hi
  clear hs hi
  go_enter Tryd.func4, Tryd.ntmps4
  go_wp2_with fail
  refine (toFrac_any x y z _).mono ?_
  rintro e w1 ⟨rfl, hb⟩
  obtain ⟨q00, q01, q02⟩ := keep3 hb (b := w.heap.size) (x := .int .i64 x) (y := .int .i64 y) (z := .int .i64 z) (by go_simp)
  have kb0 : w.heap.size < w1.heap.size := World.block_lt_of_cell? _ _ q00
  have haw1 : Acc w w1 := by
    refine Acc.call ?_ hb
    (repeat' (first | assumption | exact Acc.refl _ | refine Acc.drew ?_ | refine Acc.alloc ?_ _ | refine Acc.setCell ?_ (by omega) _))
  clear hb
  go_wp2_with fail
  refine (HS.out _).mono ?_
  rintro e w2 ⟨rfl, hb⟩
  obtain ⟨q00, q01, q02⟩ := keep3 hb (b := w.heap.size) (x := .int .i64 x) (y := .int .i64 y) (z := .int .i64 z) (by go_simp)
  have kb0 : w.heap.size < w2.heap.size := World.block_lt_of_cell? _ _ q00
  have haw2 : Acc w w2 := by
    refine Acc.call ?_ hb
    (repeat' (first | assumption | exact Acc.refl _ | refine Acc.drew ?_ | refine Acc.alloc ?_ _ | refine Acc.setCell ?_ (by omega) _))
  clear hb
  go_wp2_with fail
  refine (toFrac_any x y z _).mono ?_
  rintro e w3 ⟨rfl, hb⟩
  obtain ⟨q00, q01, q02⟩ := keep3 hb (b := w.heap.size) (x := .int .i64 x) (y := .int .i64 y) (z := .int .i64 z) (by go_simp)
  have kb0 : w.heap.size < w3.heap.size := World.block_lt_of_cell? _ _ q00
  have haw3 : Acc w w3 := by
    refine Acc.call ?_ hb
    (repeat' (first | assumption | exact Acc.refl _ | refine Acc.drew ?_ | refine Acc.alloc ?_ _ | refine Acc.setCell ?_ (by omega) _))
  clear hb
  go_wp2_with fail
  refine (HI.out _ (by repeat' (first | assumption | exact Acc.refl _ | refine Acc.drew ?_ | refine Acc.alloc ?_ _ | refine Acc.setCell ?_ (by omega) _))).mono ?_
  rintro e w4 ⟨rfl, hb⟩
  obtain ⟨q00, q01, q02⟩ := keep3 hb (b := w.heap.size) (x := .int .i64 x) (y := .int .i64 y) (z := .int .i64 z) (by go_simp)
  have kb0 : w.heap.size < w4.heap.size := World.block_lt_of_cell? _ _ q00
  have haw4 : Acc w w4 := by
    refine Acc.call ?_ hb
    (repeat' (first | assumption | exact Acc.refl _ | refine Acc.drew ?_ | refine Acc.alloc ?_ _ | refine Acc.setCell ?_ (by omega) _))
  clear hb
  go_wp2_with fail
  go_ret
  exact ⟨rfl, haw4⟩
end Go.Proofs.YtmhoppjekiiheaaDoor
