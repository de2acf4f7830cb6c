/-
  The model: powers and orders of fractions.
-/
import Derived.Test.YtbihlkienhbapabDoorSpecMake
namespace Go.Proofs.YtbihlkienhbapabDoor
open Go.ChangeShapes Go.WideShapes Go.ChangeAt Go.RowKit
set_option linter.unusedVariables false

def powerF (x y z : Int) : Option (Int × Int × Int) := if okF x y z = true then timesF x y z x (-y) z else none
set_option maxHeartbeats 1000000 in
theorem specPower_any (x y z : Int) (w : World) :
    Calls Tryd.prog 55 #[.agg #[.int .i64 x, .int .i64 y, .int .i64 z]] w (Gave (powerF x y z) w) := by
  cases h1 : okF x y z with
  | false =>
    have e : powerF x y z = none := by unfold powerF; rw [h1]; rfl
    have e2 : mirrorF x y z = none := by unfold mirrorF; rw [h1]; rfl
    rw [e]
    have H1 := Lib.hid e2
    clear h1 e e2
    go_enter Tryd.func55, Tryd.ntmps55
    go_wp2_with fail
    refine (specMirror_any x y z _).mono ?_
    rw [H1.out]
    rintro e w1 ⟨rfl, hb⟩
    obtain ⟨q00, q01, q02⟩ := keep3 hb (b := w.heap.size) (x := .int .i64 x) (y := .int .i64 y) (z := .int .i64 z) (by go_simp)
    have kb0 : w.heap.size < w1.heap.size := World.block_lt_of_cell? _ _ q00
    obtain ⟨r0, r1, r2⟩ := keep3 hb (b := w.heap.size + 1) (x := .int .i64 0) (y := .int .i64 0) (z := .int .i64 0) (by go_simp)
    have kz : w.heap.size + 1 < w1.heap.size := World.block_lt_of_cell? _ _ r0
    obtain ⟨f0, f1, f2⟩ := keepf3 hb (b := w.heap.size + 1) (by go_simp) (by go_simp)
    have haw1 : Acc w w1 := by
      refine Acc.call ?_ hb
      (repeat' (first | assumption | exact Acc.refl _ | refine Acc.drew ?_ | refine Acc.alloc ?_ _ | refine Acc.setCell ?_ (by omega) _))
    clear hb
    simp only [resV]
    go_wp2_with fail
    refine bodyPost_ret (v := .tuple #[.agg #[.int .i64 0, .int .i64 0, .int .i64 0], .bool false]) (by simp [results, Tryd.results55, go_sem, r0, r1, r2, kz]) rfl ⟨rfl, ?_⟩
    show Acc w _
    (repeat' (first | assumption | exact Acc.refl _ | refine Acc.drew ?_ | refine Acc.alloc ?_ _ | refine Acc.setCell ?_ (by omega) _))
  | true =>
    have e : powerF x y z = timesF x y z x (-y) z := by unfold powerF; rw [h1]; rfl
    have e2 : mirrorF x y z = some (x, -y, z) := by unfold mirrorF; rw [h1]; rfl
    rw [e]
    have H1 := Lib.hid e2
    clear h1 e e2
    obtain ⟨o, ho⟩ : ∃ o, timesF x y z x (-y) z = o := ⟨_, rfl⟩
    rw [ho]
    have HO := Lib.hid ho
    clear ho
    go_enter Tryd.func55, Tryd.ntmps55
    go_wp2_with fail
    refine (specMirror_any x y z _).mono ?_
    rw [H1.out]
    rintro e w1 ⟨rfl, hb⟩
    obtain ⟨q00, q01, q02⟩ := keep3 hb (b := w.heap.size) (x := .int .i64 x) (y := .int .i64 y) (z := .int .i64 z) (by go_simp)
    have kb0 : w.heap.size < w1.heap.size := World.block_lt_of_cell? _ _ q00
    obtain ⟨r0, r1, r2⟩ := keep3 hb (b := w.heap.size + 1) (x := .int .i64 0) (y := .int .i64 0) (z := .int .i64 0) (by go_simp)
    have kz : w.heap.size + 1 < w1.heap.size := World.block_lt_of_cell? _ _ r0
    obtain ⟨f0, f1, f2⟩ := keepf3 hb (b := w.heap.size + 1) (by go_simp) (by go_simp)
    have haw1 : Acc w w1 := by
      refine Acc.call ?_ hb
      (repeat' (first | assumption | exact Acc.refl _ | refine Acc.drew ?_ | refine Acc.alloc ?_ _ | refine Acc.setCell ?_ (by omega) _))
    clear hb
    simp only [resV]
    go_wp2_with fail
    refine (specTimes_any x y z x (-y) z _).mono ?_
    rw [HO.out]
    rintro e w2 ⟨rfl, hb⟩
    obtain ⟨q00, q01, q02⟩ := keep3 hb (b := w.heap.size) (x := .int .i64 x) (y := .int .i64 y) (z := .int .i64 z) (by go_simp)
    have kb0 : w.heap.size < w2.heap.size := World.block_lt_of_cell? _ _ q00
    obtain ⟨r0, r1, r2⟩ := keep3 hb (b := w.heap.size + 1) (x := .int .i64 0) (y := .int .i64 0) (z := .int .i64 0) (by go_simp)
    have kz : w.heap.size + 1 < w2.heap.size := World.block_lt_of_cell? _ _ r0
    obtain ⟨f0, f1, f2⟩ := keepf3 hb (b := w.heap.size + 1) (by go_simp) (by go_simp)
    have haw2 : Acc w w2 := by
      refine Acc.call ?_ hb
      (repeat' (first | assumption | exact Acc.refl _ | refine Acc.drew ?_ | refine Acc.alloc ?_ _ | refine Acc.setCell ?_ (by omega) _))
    clear hb
    rw [resV_eq]
    go_wp2_with fail
    refine bodyPost_ret (v := .tuple #[.agg #[.int .i64 (partsR o).1, .int .i64 (partsR o).2.1, .int .i64 (partsR o).2.2], .bool (okR o)]) (by simp [results, Tryd.results55, go_sem, r0, r1, r2]) rfl ⟨by rw [resV_eq], ?_⟩
    show Acc w _
    (repeat' (first | assumption | exact Acc.refl _ | refine Acc.drew ?_ | refine Acc.alloc ?_ _ | refine Acc.setCell ?_ (by omega) _))

def signI (n : Int) : Int := if n < 0 then -1 else if n = 0 then 0 else 1
/-- An order and true, or 0 and false. -/
def cmpV : Option Int → Value
  | some s => .tuple #[.int .i64 s, .bool true]
  | none => .tuple #[.int .i64 0, .bool false]
def compareF (x y z a b c : Int) : Option Int :=
  if (okF x y z && okF a b c && decide (y = 0) && decide (b = 0)) = true then some (signI (x * c - a * z)) else none
end Go.Proofs.YtbihlkienhbapabDoor
