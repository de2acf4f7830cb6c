/-
  The model: fractions made of their parts; mirrored ones.
-/
import Derived.Test.YtbihlkienhbapabDoorSpecTimes
namespace Go.Proofs.YtbihlkienhbapabDoor
open Go.ChangeShapes Go.WideShapes Go.ChangeAt Go.RowKit
set_option linter.unusedVariables false

def makeF (re im den : Int) : Option (Int × Int × Int) :=
  if (inB den 1 1000000000000000000 && inB re (-1000000000000000000) 1000000000000000000 && inB im (-1000000000000000000) 1000000000000000000) = true then lowF re im den else none
def mirrorF (x y z : Int) : Option (Int × Int × Int) := if okF x y z = true then some (x, -y, z) else none
set_option maxHeartbeats 1000000 in
theorem specMirror_any (x y z : Int) (w : World) :
    Calls Tryd.prog 59 #[.agg #[.int .i64 x, .int .i64 y, .int .i64 z]] w (Gave (mirrorF x y z) w) := by
  cases h1 : okF x y z with
  | false =>
    have e : mirrorF x y z = none := by unfold mirrorF; rw [h1]; rfl
    rw [e]
    have H1 := Lib.hid h1
    clear h1 e
    go_enter Tryd.func59, Tryd.ntmps59
    go_wp2_with fail
    refine (specValid_any x y z _).mono ?_
    rw [H1.out]
    rintro e w1 ⟨rfl, hb⟩
    obtain ⟨q00, q01, q02⟩ := keep3 hb (b := w.heap.size) (x := .int .i64 x) (y := .int .i64 y) (z := .int .i64 z) (by go_simp)
    obtain ⟨r0, r1, r2⟩ := keep3 hb (b := w.heap.size + 1) (x := .int .i64 0) (y := .int .i64 0) (z := .int .i64 0) (by go_simp)
    have kz : w.heap.size + 1 < w1.heap.size := World.block_lt_of_cell? _ _ r0
    obtain ⟨f0, f1, f2⟩ := keepf3 hb (b := w.heap.size + 1) (by go_simp) (by go_simp)
    have haw1 : Acc w w1 := by
      refine Acc.call ?_ hb
      (repeat' (first | assumption | exact Acc.refl _ | refine Acc.drew ?_ | refine Acc.alloc ?_ _ | refine Acc.setCell ?_ (by omega) _))
    clear hb
    go_wp2_with fail
    refine bodyPost_ret (v := .tuple #[.agg #[.int .i64 0, .int .i64 0, .int .i64 0], .bool false]) (by simp [results, Tryd.results59, go_sem, r0, r1, r2]) rfl ⟨rfl, ?_⟩
    show Acc w _
    (repeat' (first | assumption | exact Acc.refl _ | refine Acc.drew ?_ | refine Acc.alloc ?_ _ | refine Acc.setCell ?_ (by omega) _))
  | true =>
    obtain ⟨⟨x0, x1⟩, ⟨y0, y1⟩, ⟨z0, z1⟩⟩ := okF_bd h1
    have e : mirrorF x y z = some (x, -y, z) := by unfold mirrorF; rw [h1]; rfl
    rw [e]
    have H1 := Lib.hid h1
    clear h1 e
    go_enter Tryd.func59, Tryd.ntmps59
    go_wp2_with fail
    refine (specValid_any x y z _).mono ?_
    rw [H1.out]
    rintro e w1 ⟨rfl, hb⟩
    obtain ⟨q00, q01, q02⟩ := keep3 hb (b := w.heap.size) (x := .int .i64 x) (y := .int .i64 y) (z := .int .i64 z) (by go_simp)
    obtain ⟨r0, r1, r2⟩ := keep3 hb (b := w.heap.size + 1) (x := .int .i64 0) (y := .int .i64 0) (z := .int .i64 0) (by go_simp)
    have kz : w.heap.size + 1 < w1.heap.size := World.block_lt_of_cell? _ _ r0
    obtain ⟨f0, f1, f2⟩ := keepf3 hb (b := w.heap.size + 1) (by go_simp) (by go_simp)
    have haw1 : Acc w w1 := by
      refine Acc.call ?_ hb
      (repeat' (first | assumption | exact Acc.refl _ | refine Acc.drew ?_ | refine Acc.alloc ?_ _ | refine Acc.setCell ?_ (by omega) _))
    clear hb
    go_wp2_with fail
    refine bodyPost_ret (v := .tuple #[.agg #[.int .i64 x, .int .i64 (-y), .int .i64 z], .bool true]) (by simp [results, Tryd.results59, go_sem, r0, r1, r2]) rfl ⟨rfl, ?_⟩
    show Acc w _
    (repeat' (first | assumption | exact Acc.refl _ | refine Acc.drew ?_ | refine Acc.alloc ?_ _ | refine Acc.setCell ?_ (by omega) _))

end Go.Proofs.YtbihlkienhbapabDoor
