/-
  The model: wide vectors, what fits.
-/
import Derived.Test.YtbihlkienhbapaaDoorFits
import Derived.Test.YtbihlkienhbapaaDoorBlk
import Derived.Laws.Cover3
namespace Go.Proofs.YtbihlkienhbapaaDoor
open Go.ChangeShapes Go.WideShapes Go.ChangeAt Go.RowKit
set_option linter.unusedVariables false

theorem specWideT {x y z : Int} (h : okF x y z = true) (w : World) : Calls Tryd.prog 65 #[.agg #[.int .i64 x, .int .i64 y, .int .i64 z]] w fun e w' => e = .returned (.tuple #[.complex .f64 (wideF x z) (wideF y z), .bool true]) ∧ Below w.heap.size w w' := by
  obtain ⟨bx, by', bz⟩ := okF_bd h
  refine (specWide_any x y z w).mono fun e w' k => ?_
  obtain ⟨p, q, rfl, s1, s2⟩ := k.1 h
  rw [wide_told bx bz s1, wide_told by' bz s2]
  exact ⟨rfl, k.2.2⟩
theorem specWideN {x y z : Int} (h : okF x y z = false) (w : World) : Calls Tryd.prog 65 #[.agg #[.int .i64 x, .int .i64 y, .int .i64 z]] w fun e w' => e = .returned (.tuple #[.complex .f64 0 0, .bool false]) ∧ Below w.heap.size w w' := (specWide_any x y z w).mono fun e w' k => ⟨k.2.1 h, k.2.2⟩
/-- Both wide numbers and true, or both 0 and false. -/
def JWideT (x1 x2 x3 y1 y2 y3 : Int) (w : World) (e : Ending) (w' : World) : Prop :=
  ((okF x1 x2 x3 && okF y1 y2 y3) = true → e = .returned (.tuple #[.complex .f64 (wideF x1 x3) (wideF x2 x3), .complex .f64 (wideF y1 y3) (wideF y2 y3), .bool true])) ∧ ((okF x1 x2 x3 && okF y1 y2 y3) = false → e = .returned (.tuple #[.complex .f64 0 0, .complex .f64 0 0, .bool false])) ∧ Below w.heap.size w w'
set_option maxHeartbeats 2000000 in
theorem specJWideT (x1 x2 x3 y1 y2 y3 : Int) (w : World) : Calls Tryd.prog 35 #[.agg #[.int .i64 x1, .int .i64 x2, .int .i64 x3, .int .i64 y1, .int .i64 y2, .int .i64 y3]] w (JWideT x1 x2 x3 y1 y2 y3 w) := by
  unfold JWideT
  cases hX : okF x1 x2 x3 with
  | false =>
    have HX := Lib.hid hX
    clear hX
    cases hY : okF y1 y2 y3 with
    | false =>
      have HY := Lib.hid hY
      clear hY
      go_enter Tryd.func35, Tryd.ntmps35
      go_wp2_with fail
      refine (specWideN HX.out _).mono ?_
      rintro e W1 ⟨rfl, hb⟩
      have Ba : Blk W1 (w.heap.size) [.int .i64 x1, .int .i64 x2, .int .i64 x3, .int .i64 y1, .int .i64 y2, .int .i64 y3] := Blk.keep hb (by repeat' (first | (with_reducible first | assumption | refine Blk.drew ?_ | refine Blk.drewN ?_ _ | apply Blk.set | (refine Blk.new ?_; focus (first | rfl | (simp; done))) | refine Blk.alloc ?_ _ | refine Blk.other ?_ ?_ _) | exact eqL rfl | (refine neB ?_; omega)))
      have ca := Ba.cell
      have fa := Ba.free
      have la_W1 := Ba.lt
      have kaW1 : Acc w W1 := by
        refine Acc.call ?_ hb
        (repeat' (first | (with_reducible first | assumption | exact Acc.refl _ | refine Acc.drew ?_ | refine Acc.drewN ?_ _ | refine Acc.alloc ?_ _ | refine Acc.setCell ?_ ?_ _) | (refine leB ?_; omega)))
      clear hb
      go_wp2_with fail
      refine (specWideN HY.out _).mono ?_
      rintro e W2 ⟨rfl, hb⟩
      have Ba : Blk W2 (w.heap.size) [.int .i64 x1, .int .i64 x2, .int .i64 x3, .int .i64 y1, .int .i64 y2, .int .i64 y3] := Blk.keep hb (by repeat' (first | (with_reducible first | assumption | refine Blk.drew ?_ | refine Blk.drewN ?_ _ | apply Blk.set | (refine Blk.new ?_; focus (first | rfl | (simp; done))) | refine Blk.alloc ?_ _ | refine Blk.other ?_ ?_ _) | exact eqL rfl | (refine neB ?_; omega)))
      have ca := Ba.cell
      have fa := Ba.free
      have la_W2 := Ba.lt
      have kaW2 : Acc w W2 := by
        refine Acc.call ?_ hb
        (repeat' (first | (with_reducible first | assumption | exact Acc.refl _ | refine Acc.drew ?_ | refine Acc.drewN ?_ _ | refine Acc.alloc ?_ _ | refine Acc.setCell ?_ ?_ _) | (refine leB ?_; omega)))
      clear hb
      go_wp2_with fail
      go_ret3
      exact ⟨fun h => (by cases h), fun _ => rfl, kaW2⟩
    | true =>
      have HY := Lib.hid hY
      clear hY
      go_enter Tryd.func35, Tryd.ntmps35
      go_wp2_with fail
      refine (specWideN HX.out _).mono ?_
      rintro e W1 ⟨rfl, hb⟩
      have Ba : Blk W1 (w.heap.size) [.int .i64 x1, .int .i64 x2, .int .i64 x3, .int .i64 y1, .int .i64 y2, .int .i64 y3] := Blk.keep hb (by repeat' (first | (with_reducible first | assumption | refine Blk.drew ?_ | refine Blk.drewN ?_ _ | apply Blk.set | (refine Blk.new ?_; focus (first | rfl | (simp; done))) | refine Blk.alloc ?_ _ | refine Blk.other ?_ ?_ _) | exact eqL rfl | (refine neB ?_; omega)))
      have ca := Ba.cell
      have fa := Ba.free
      have la_W1 := Ba.lt
      have kaW1 : Acc w W1 := by
        refine Acc.call ?_ hb
        (repeat' (first | (with_reducible first | assumption | exact Acc.refl _ | refine Acc.drew ?_ | refine Acc.drewN ?_ _ | refine Acc.alloc ?_ _ | refine Acc.setCell ?_ ?_ _) | (refine leB ?_; omega)))
      clear hb
      go_wp2_with fail
      refine (specWideT HY.out _).mono ?_
      rintro e W2 ⟨rfl, hb⟩
      have Ba : Blk W2 (w.heap.size) [.int .i64 x1, .int .i64 x2, .int .i64 x3, .int .i64 y1, .int .i64 y2, .int .i64 y3] := Blk.keep hb (by repeat' (first | (with_reducible first | assumption | refine Blk.drew ?_ | refine Blk.drewN ?_ _ | apply Blk.set | (refine Blk.new ?_; focus (first | rfl | (simp; done))) | refine Blk.alloc ?_ _ | refine Blk.other ?_ ?_ _) | exact eqL rfl | (refine neB ?_; omega)))
      have ca := Ba.cell
      have fa := Ba.free
      have la_W2 := Ba.lt
      have kaW2 : Acc w W2 := by
        refine Acc.call ?_ hb
        (repeat' (first | (with_reducible first | assumption | exact Acc.refl _ | refine Acc.drew ?_ | refine Acc.drewN ?_ _ | refine Acc.alloc ?_ _ | refine Acc.setCell ?_ ?_ _) | (refine leB ?_; omega)))
      clear hb
      go_wp2_with fail
      go_ret3
      exact ⟨fun h => (by cases h), fun _ => rfl, kaW2⟩
  | true =>
    have HX := Lib.hid hX
    clear hX
    cases hY : okF y1 y2 y3 with
    | false =>
      have HY := Lib.hid hY
      clear hY
      go_enter Tryd.func35, Tryd.ntmps35
      go_wp2_with fail
      refine (specWideT HX.out _).mono ?_
      rintro e W1 ⟨rfl, hb⟩
      have Ba : Blk W1 (w.heap.size) [.int .i64 x1, .int .i64 x2, .int .i64 x3, .int .i64 y1, .int .i64 y2, .int .i64 y3] := Blk.keep hb (by repeat' (first | (with_reducible first | assumption | refine Blk.drew ?_ | refine Blk.drewN ?_ _ | apply Blk.set | (refine Blk.new ?_; focus (first | rfl | (simp; done))) | refine Blk.alloc ?_ _ | refine Blk.other ?_ ?_ _) | exact eqL rfl | (refine neB ?_; omega)))
      have ca := Ba.cell
      have fa := Ba.free
      have la_W1 := Ba.lt
      have kaW1 : Acc w W1 := by
        refine Acc.call ?_ hb
        (repeat' (first | (with_reducible first | assumption | exact Acc.refl _ | refine Acc.drew ?_ | refine Acc.drewN ?_ _ | refine Acc.alloc ?_ _ | refine Acc.setCell ?_ ?_ _) | (refine leB ?_; omega)))
      clear hb
      go_wp2_with fail
      refine (specWideN HY.out _).mono ?_
      rintro e W2 ⟨rfl, hb⟩
      have Ba : Blk W2 (w.heap.size) [.int .i64 x1, .int .i64 x2, .int .i64 x3, .int .i64 y1, .int .i64 y2, .int .i64 y3] := Blk.keep hb (by repeat' (first | (with_reducible first | assumption | refine Blk.drew ?_ | refine Blk.drewN ?_ _ | apply Blk.set | (refine Blk.new ?_; focus (first | rfl | (simp; done))) | refine Blk.alloc ?_ _ | refine Blk.other ?_ ?_ _) | exact eqL rfl | (refine neB ?_; omega)))
      have ca := Ba.cell
      have fa := Ba.free
      have la_W2 := Ba.lt
      have kaW2 : Acc w W2 := by
        refine Acc.call ?_ hb
        (repeat' (first | (with_reducible first | assumption | exact Acc.refl _ | refine Acc.drew ?_ | refine Acc.drewN ?_ _ | refine Acc.alloc ?_ _ | refine Acc.setCell ?_ ?_ _) | (refine leB ?_; omega)))
      clear hb
      go_wp2_with fail
      go_ret3
      exact ⟨fun h => (by cases h), fun _ => rfl, kaW2⟩
    | true =>
      have HY := Lib.hid hY
      clear hY
      go_enter Tryd.func35, Tryd.ntmps35
      go_wp2_with fail
      refine (specWideT HX.out _).mono ?_
      rintro e W1 ⟨rfl, hb⟩
      have Ba : Blk W1 (w.heap.size) [.int .i64 x1, .int .i64 x2, .int .i64 x3, .int .i64 y1, .int .i64 y2, .int .i64 y3] := Blk.keep hb (by repeat' (first | (with_reducible first | assumption | refine Blk.drew ?_ | refine Blk.drewN ?_ _ | apply Blk.set | (refine Blk.new ?_; focus (first | rfl | (simp; done))) | refine Blk.alloc ?_ _ | refine Blk.other ?_ ?_ _) | exact eqL rfl | (refine neB ?_; omega)))
      have ca := Ba.cell
      have fa := Ba.free
      have la_W1 := Ba.lt
      have kaW1 : Acc w W1 := by
        refine Acc.call ?_ hb
        (repeat' (first | (with_reducible first | assumption | exact Acc.refl _ | refine Acc.drew ?_ | refine Acc.drewN ?_ _ | refine Acc.alloc ?_ _ | refine Acc.setCell ?_ ?_ _) | (refine leB ?_; omega)))
      clear hb
      go_wp2_with fail
      refine (specWideT HY.out _).mono ?_
      rintro e W2 ⟨rfl, hb⟩
      have Ba : Blk W2 (w.heap.size) [.int .i64 x1, .int .i64 x2, .int .i64 x3, .int .i64 y1, .int .i64 y2, .int .i64 y3] := Blk.keep hb (by repeat' (first | (with_reducible first | assumption | refine Blk.drew ?_ | refine Blk.drewN ?_ _ | apply Blk.set | (refine Blk.new ?_; focus (first | rfl | (simp; done))) | refine Blk.alloc ?_ _ | refine Blk.other ?_ ?_ _) | exact eqL rfl | (refine neB ?_; omega)))
      have ca := Ba.cell
      have fa := Ba.free
      have la_W2 := Ba.lt
      have kaW2 : Acc w W2 := by
        refine Acc.call ?_ hb
        (repeat' (first | (with_reducible first | assumption | exact Acc.refl _ | refine Acc.drew ?_ | refine Acc.drewN ?_ _ | refine Acc.alloc ?_ _ | refine Acc.setCell ?_ ?_ _) | (refine leB ?_; omega)))
      clear hb
      go_wp2_with fail
      go_ret3
      exact ⟨fun _ => rfl, fun h => (by cases h), kaW2⟩
set_option maxHeartbeats 4000000 in
theorem specJFits_any (x1 x2 x3 y1 y2 y3 : Int) (w : World) : Calls Tryd.prog 38 #[.agg #[.int .i64 x1, .int .i64 x2, .int .i64 x3, .int .i64 y1, .int .i64 y2, .int .i64 y3]] w fun e w' => e = .returned (.bool (fitsF x1 x2 x3 y1 y2 y3)) ∧ Below w.heap.size w w' := by
  unfold fitsF
  cases ho : (okF x1 x2 x3 && okF y1 y2 y3) with
  | false =>
    simp only [Bool.false_and]
    have D := Lib.hid fun w => (specJWideT x1 x2 x3 y1 y2 y3 w).mono fun e w' h => And.intro (h.2.1 ho) h.2.2
    clear ho
    go_enter Tryd.func38, Tryd.ntmps38
    go_wp2_with fail
    refine (D.out _).mono ?_
    rintro e W1 ⟨rfl, hb⟩
    have Ba : Blk W1 (w.heap.size) [.int .i64 x1, .int .i64 x2, .int .i64 x3, .int .i64 y1, .int .i64 y2, .int .i64 y3] := Blk.keep hb (by repeat' (first | (with_reducible first | assumption | refine Blk.drew ?_ | refine Blk.drewN ?_ _ | apply Blk.set | (refine Blk.new ?_; focus (first | rfl | (simp; done))) | refine Blk.alloc ?_ _ | refine Blk.other ?_ ?_ _) | exact eqL rfl | (refine neB ?_; omega)))
    have ca := Ba.cell
    have fa := Ba.free
    have la_W1 := Ba.lt
    have kaW1 : Acc w W1 := by
      refine Acc.call ?_ hb
      (repeat' (first | (with_reducible first | assumption | exact Acc.refl _ | refine Acc.drew ?_ | refine Acc.drewN ?_ _ | refine Acc.alloc ?_ _ | refine Acc.setCell ?_ ?_ _) | (refine leB ?_; omega)))
    clear hb
    go_wp2_with fail
    go_ret
    refine ⟨rfl, ?_⟩
    show Acc w _
    (repeat' (first | (with_reducible first | assumption | exact Acc.refl _ | refine Acc.drew ?_ | refine Acc.drewN ?_ _ | refine Acc.alloc ?_ _ | refine Acc.setCell ?_ ?_ _) | (refine leB ?_; omega)))
  | true =>
    simp only [Bool.true_and]
    have D := Lib.hid fun w => (specJWideT x1 x2 x3 y1 y2 y3 w).mono fun e w' h => And.intro (h.1 ho) h.2.2
    rw [Bool.and_eq_true] at ho
    have HX := Lib.hid ho.1
    have HY := Lib.hid ho.2
    clear ho
    have RX := Lib.hid fun w => back_conv HX.out Tryd.prog 44 48 (by rw [Tryd.underlying44]; rfl) Tryd.underlying48 w
    have RY := Lib.hid fun w => back_conv HY.out Tryd.prog 44 48 (by rw [Tryd.underlying44]; rfl) Tryd.underlying48 w
    have QX := Lib.hid fun w => forth_conv HX.out Tryd.prog 48 44 (by rw [Tryd.underlying48]; rfl) Tryd.underlying44 w
    have QY := Lib.hid fun w => forth_conv HY.out Tryd.prog 48 44 (by rw [Tryd.underlying48]; rfl) Tryd.underlying44 w
    go_enter Tryd.func38, Tryd.ntmps38
    go_wp2_with fail
    refine (D.out _).mono ?_
    rintro e W1 ⟨rfl, hb⟩
    have Ba : Blk W1 (w.heap.size) [.int .i64 x1, .int .i64 x2, .int .i64 x3, .int .i64 y1, .int .i64 y2, .int .i64 y3] := Blk.keep hb (by repeat' (first | (with_reducible first | assumption | refine Blk.drew ?_ | refine Blk.drewN ?_ _ | apply Blk.set | (refine Blk.new ?_; focus (first | rfl | (simp; done))) | refine Blk.alloc ?_ _ | refine Blk.other ?_ ?_ _) | exact eqL rfl | (refine neB ?_; omega)))
    have ca := Ba.cell
    have fa := Ba.free
    have la_W1 := Ba.lt
    have kaW1 : Acc w W1 := by
      refine Acc.call ?_ hb
      (repeat' (first | (with_reducible first | assumption | exact Acc.refl _ | refine Acc.drew ?_ | refine Acc.drewN ?_ _ | refine Acc.alloc ?_ _ | refine Acc.setCell ?_ ?_ _) | (refine leB ?_; omega)))
    clear hb
    go_wp2_with (simp only [RX.out, RY.out, QX.out, QY.out])
    all_goals
      go_ret
      refine ⟨by unfold fits1; simp [*], ?_⟩
      show Acc w _
      (repeat' (first | (with_reducible first | assumption | exact Acc.refl _ | refine Acc.drew ?_ | refine Acc.drewN ?_ _ | refine Acc.alloc ?_ _ | refine Acc.setCell ?_ ?_ _) | (refine leB ?_; omega)))
end Go.Proofs.YtbihlkienhbapaaDoor
