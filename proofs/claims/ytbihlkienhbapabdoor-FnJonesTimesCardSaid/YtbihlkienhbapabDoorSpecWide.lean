/-
  The model: the wide number of a fraction.
-/
import Derived.Test.YtbihlkienhbapabDoorSpecFrac
import Derived.Test.YtbihlkienhbapabDoorFloatRun
namespace Go.Proofs.YtbihlkienhbapabDoor
open Go.ChangeShapes Go.WideShapes Go.ChangeAt Go.RowKit
set_option linter.unusedVariables false

/-- The wide number of a fraction, its NaN's bits left open (there is none). -/
def Wided (x y z : Int) (w : World) (e : Ending) (w' : World) : Prop :=
  (okF x y z = true → ∃ p q, e = .returned (.tuple #[.complex .f64 p q, .bool true]) ∧ Same p (fop .quo (floatOfInt .f64 x) (floatOfInt .f64 z)) ∧ Same q (fop .quo (floatOfInt .f64 y) (floatOfInt .f64 z))) ∧
  (okF x y z = false → e = .returned (.tuple #[.complex .f64 0 0, .bool false])) ∧ Below w.heap.size w w'
set_option maxHeartbeats 1000000 in
theorem specWide_any (x y z : Int) (w : World) :
    Calls Tryd.prog 75 #[.agg #[.int .i64 x, .int .i64 y, .int .i64 z]] w (Wided x y z w) := by
  cases h1 : okF x y z with
  | false =>
    have H1 := Lib.hid h1
    clear h1
    go_enter Tryd.func75, Tryd.ntmps75
    go_wp2_with fail
    refine (specValid_any x y z _).mono ?_
    rw [H1.out]
    rintro e w1 ⟨rfl, hb⟩
    obtain ⟨q00, q01, q02⟩ := keep3 hb (b := w.heap.size) (x := .int .i64 x) (y := .int .i64 y) (z := .int .i64 z) (by go_simp)
    have kb0 : w.heap.size < w1.heap.size := World.block_lt_of_cell? _ _ q00
    have haw1 : Acc w w1 := by
      refine Acc.call ?_ hb
      (repeat' (first | assumption | exact Acc.refl _ | refine Acc.drew ?_ | refine Acc.alloc ?_ _ | refine Acc.setCell ?_ (by omega) _))
    clear hb
    go_wp2_with fail
    go_ret2
    exact ⟨fun h => (by rw [H1.out] at h; cases h), fun _ => rfl, haw1⟩
  | true =>
    obtain ⟨⟨x0, x1⟩, ⟨y0, y1⟩, ⟨z0, z1⟩⟩ := okF_bd h1
    have H1 := Lib.hid h1
    clear h1
    go_enter Tryd.func75, Tryd.ntmps75
    go_wp2_with fail
    refine (specValid_any x y z _).mono ?_
    rw [H1.out]
    rintro e w1 ⟨rfl, hb⟩
    obtain ⟨q00, q01, q02⟩ := keep3 hb (b := w.heap.size) (x := .int .i64 x) (y := .int .i64 y) (z := .int .i64 z) (by go_simp)
    have kb0 : w.heap.size < w1.heap.size := World.block_lt_of_cell? _ _ q00
    have haw1 : Acc w w1 := by
      refine Acc.call ?_ hb
      (repeat' (first | assumption | exact Acc.refl _ | refine Acc.drew ?_ | refine Acc.alloc ?_ _ | refine Acc.setCell ?_ (by omega) _))
    clear hb
    go_wp2_with (simp only [run_quo])
    go_ret2
    exact ⟨fun _ => ⟨_, _, rfl, fval_same .., fval_same ..⟩, fun h => (by rw [H1.out] at h; cases h), Below.trans haw1 (Bare.trans (fworld_bare _ _ _ _) (fworld_bare _ _ _ _) _)⟩
end Go.Proofs.YtbihlkienhbapabDoor
