/-
  The model: vectors made of vectors.
-/
import Derived.Test.YtbihlkienhbapabDoorSpecJones
namespace Go.Proofs.YtbihlkienhbapabDoor
open Go.ChangeShapes Go.WideShapes Go.ChangeAt Go.RowKit
set_option linter.unusedVariables false

def jaddF (x1 x2 x3 y1 y2 y3 a1 a2 a3 b1 b2 b3 : Int) := pairO (addF x1 x2 x3 a1 a2 a3) (addF y1 y2 y3 b1 b2 b3)
set_option maxHeartbeats 2000000 in
theorem specJAdd_any (x1 x2 x3 y1 y2 y3 a1 a2 a3 b1 b2 b3 : Int) (w : World) :
    Calls Tryd.prog 27 #[.agg #[.int .i64 x1, .int .i64 x2, .int .i64 x3, .int .i64 y1, .int .i64 y2, .int .i64 y3], .agg #[.int .i64 a1, .int .i64 a2, .int .i64 a3, .int .i64 b1, .int .i64 b2, .int .i64 b3]] w (Gave6 (jaddF x1 x2 x3 y1 y2 y3 a1 a2 a3 b1 b2 b3) w) := by
  obtain ⟨⟨u1, u2, u3⟩, hu⟩ : ∃ o, partsR (addF x1 x2 x3 a1 a2 a3) = o := ⟨_, rfl⟩
  obtain ⟨ku, hku⟩ : ∃ k, okR (addF x1 x2 x3 a1 a2 a3) = k := ⟨_, rfl⟩
  have Cu := Lib.hid hu
  have Du := Lib.hid hku
  obtain ⟨⟨v1, v2, v3⟩, hv⟩ : ∃ o, partsR (addF y1 y2 y3 b1 b2 b3) = o := ⟨_, rfl⟩
  obtain ⟨kv, hkv⟩ : ∃ k, okR (addF y1 y2 y3 b1 b2 b3) = k := ⟨_, rfl⟩
  have Cv := Lib.hid hv
  have Dv := Lib.hid hkv
  rw [show jaddF x1 x2 x3 y1 y2 y3 a1 a2 a3 b1 b2 b3 = _ from pairO_eq hu hku hv hkv]
  obtain ⟨o, E⟩ : ∃ o, (if (ku && kv) = true then some ((u1, u2, u3), (v1, v2, v3)) else none) = o := ⟨_, rfl⟩
  rw [E]
  have HE := Lib.hid E
  clear E hu hku hv hkv
  go_enter Tryd.func27, Tryd.ntmps27
  go_wp2_with fail
  refine (gave_any Cu.out Du.out (specAdd_any x1 x2 x3 a1 a2 a3 _)).mono ?_
  rintro e W1 ⟨rfl, hb⟩
  obtain ⟨c00, c01, c02, c03, c04, c05⟩ := keep6 hb (b := w.heap.size) (v0 := .int .i64 x1) (v1 := .int .i64 x2) (v2 := .int .i64 x3) (v3 := .int .i64 y1) (v4 := .int .i64 y2) (v5 := .int .i64 y3) (by go_simp)
  have cl0 : w.heap.size < W1.heap.size := World.block_lt_of_cell? _ _ c00
  obtain ⟨c10, c11, c12, c13, c14, c15⟩ := keep6 hb (b := w.heap.size + 1) (v0 := .int .i64 a1) (v1 := .int .i64 a2) (v2 := .int .i64 a3) (v3 := .int .i64 b1) (v4 := .int .i64 b2) (v5 := .int .i64 b3) (by go_simp)
  have cl1 : w.heap.size + 1 < W1.heap.size := World.block_lt_of_cell? _ _ c10
  obtain ⟨r0, r1, r2, r3, r4, r5⟩ := keep6 hb (b := w.heap.size + 1 + 1) (v0 := .int .i64 0) (v1 := .int .i64 0) (v2 := .int .i64 0) (v3 := .int .i64 0) (v4 := .int .i64 0) (v5 := .int .i64 0) (by go_simp)
  obtain ⟨f0, f1, f2, f3, f4, f5⟩ := keepf6 hb (b := w.heap.size + 1 + 1) (by go_simp) (by go_simp)
  have kz : w.heap.size + 1 + 1 < W1.heap.size := World.block_lt_of_cell? _ _ r0
  have kaW1 : Acc w W1 := by
    refine Acc.call ?_ hb
    (repeat' (first | (with_reducible first | assumption | exact Acc.refl _ | refine Acc.drew ?_ | refine Acc.drewN ?_ _ | refine Acc.alloc ?_ _ | refine Acc.setCell ?_ ?_ _) | omega))
  clear hb
  go_wp2_with fail
  refine (gave_any Cv.out Dv.out (specAdd_any y1 y2 y3 b1 b2 b3 _)).mono ?_
  rintro e W2 ⟨rfl, hb⟩
  obtain ⟨c00, c01, c02, c03, c04, c05⟩ := keep6 hb (b := w.heap.size) (v0 := .int .i64 x1) (v1 := .int .i64 x2) (v2 := .int .i64 x3) (v3 := .int .i64 y1) (v4 := .int .i64 y2) (v5 := .int .i64 y3) (by go_simp)
  have cl0 : w.heap.size < W2.heap.size := World.block_lt_of_cell? _ _ c00
  obtain ⟨c10, c11, c12, c13, c14, c15⟩ := keep6 hb (b := w.heap.size + 1) (v0 := .int .i64 a1) (v1 := .int .i64 a2) (v2 := .int .i64 a3) (v3 := .int .i64 b1) (v4 := .int .i64 b2) (v5 := .int .i64 b3) (by go_simp)
  have cl1 : w.heap.size + 1 < W2.heap.size := World.block_lt_of_cell? _ _ c10
  obtain ⟨c20, c21, c22⟩ := keep3 hb (b := W1.heap.size) (x := .int .i64 u1) (y := .int .i64 u2) (z := .int .i64 u3) (by go_simp)
  have cl2 : W1.heap.size < W2.heap.size := World.block_lt_of_cell? _ _ c20
  obtain ⟨r0, r1, r2, r3, r4, r5⟩ := keep6 hb (b := w.heap.size + 1 + 1) (v0 := .int .i64 0) (v1 := .int .i64 0) (v2 := .int .i64 0) (v3 := .int .i64 0) (v4 := .int .i64 0) (v5 := .int .i64 0) (by go_simp)
  obtain ⟨f0, f1, f2, f3, f4, f5⟩ := keepf6 hb (b := w.heap.size + 1 + 1) (by go_simp) (by go_simp)
  have kz : w.heap.size + 1 + 1 < W2.heap.size := World.block_lt_of_cell? _ _ r0
  have kaW2 : Acc w W2 := by
    refine Acc.call ?_ hb
    (repeat' (first | (with_reducible first | assumption | exact Acc.refl _ | refine Acc.drew ?_ | refine Acc.drewN ?_ _ | refine Acc.alloc ?_ _ | refine Acc.setCell ?_ ?_ _) | omega))
  clear hb
  clear Cu Du Cv Dv
  cases ku with
  | false =>
    have e := HE.out
    simp only [Bool.false_and, Bool.false_eq_true, if_false] at e
    subst e
    clear HE
    go_wp2_with fail
    refine bodyPost_ret (v := .tuple #[.agg #[.int .i64 0, .int .i64 0, .int .i64 0, .int .i64 0, .int .i64 0, .int .i64 0], .bool false]) (by simp [results, Tryd.results27, go_sem, r0, r1, r2, r3, r4, r5, kz]) rfl ⟨fun _ _ _ _ _ _ h => (by cases h), fun _ => rfl, ?_⟩
    show Acc w _
    (repeat' (first | (with_reducible first | assumption | exact Acc.refl _ | refine Acc.drew ?_ | refine Acc.drewN ?_ _ | refine Acc.alloc ?_ _ | refine Acc.setCell ?_ ?_ _) | omega))
  | true =>
    cases kv with
    | false =>
      have e := HE.out
      simp only [Bool.and_false, Bool.false_eq_true, if_false] at e
      subst e
      clear HE
      go_wp2_with fail
      refine bodyPost_ret (v := .tuple #[.agg #[.int .i64 0, .int .i64 0, .int .i64 0, .int .i64 0, .int .i64 0, .int .i64 0], .bool false]) (by simp [results, Tryd.results27, go_sem, r0, r1, r2, r3, r4, r5, kz]) rfl ⟨fun _ _ _ _ _ _ h => (by cases h), fun _ => rfl, ?_⟩
      show Acc w _
      (repeat' (first | (with_reducible first | assumption | exact Acc.refl _ | refine Acc.drew ?_ | refine Acc.drewN ?_ _ | refine Acc.alloc ?_ _ | refine Acc.setCell ?_ ?_ _) | omega))
    | true =>
      have e := HE.out
      simp only [Bool.and_self, if_true] at e
      subst e
      clear HE
      go_wp2_with fail
      refine bodyPost_ret (v := .tuple #[.agg #[.int .i64 u1, .int .i64 u2, .int .i64 u3, .int .i64 v1, .int .i64 v2, .int .i64 v3], .bool true]) (by simp [results, Tryd.results27, go_sem, r0, r1, r2, r3, r4, r5, kz]) rfl ⟨fun _ _ _ _ _ _ h => (by cases h; rfl), fun h => (by cases h), ?_⟩
      show Acc w _
      (repeat' (first | (with_reducible first | assumption | exact Acc.refl _ | refine Acc.drew ?_ | refine Acc.drewN ?_ _ | refine Acc.alloc ?_ _ | refine Acc.setCell ?_ ?_ _) | omega))
def jtimesF (x1 x2 x3 y1 y2 y3 c1 c2 c3 : Int) := pairO (timesF x1 x2 x3 c1 c2 c3) (timesF y1 y2 y3 c1 c2 c3)
set_option maxHeartbeats 2000000 in
theorem specJTimes_any (x1 x2 x3 y1 y2 y3 c1 c2 c3 : Int) (w : World) :
    Calls Tryd.prog 31 #[.agg #[.int .i64 x1, .int .i64 x2, .int .i64 x3, .int .i64 y1, .int .i64 y2, .int .i64 y3], .agg #[.int .i64 c1, .int .i64 c2, .int .i64 c3]] w (Gave6 (jtimesF x1 x2 x3 y1 y2 y3 c1 c2 c3) w) := by
  obtain ⟨⟨u1, u2, u3⟩, hu⟩ : ∃ o, partsR (timesF x1 x2 x3 c1 c2 c3) = o := ⟨_, rfl⟩
  obtain ⟨ku, hku⟩ : ∃ k, okR (timesF x1 x2 x3 c1 c2 c3) = k := ⟨_, rfl⟩
  have Cu := Lib.hid hu
  have Du := Lib.hid hku
  obtain ⟨⟨v1, v2, v3⟩, hv⟩ : ∃ o, partsR (timesF y1 y2 y3 c1 c2 c3) = o := ⟨_, rfl⟩
  obtain ⟨kv, hkv⟩ : ∃ k, okR (timesF y1 y2 y3 c1 c2 c3) = k := ⟨_, rfl⟩
  have Cv := Lib.hid hv
  have Dv := Lib.hid hkv
  rw [show jtimesF x1 x2 x3 y1 y2 y3 c1 c2 c3 = _ from pairO_eq hu hku hv hkv]
  obtain ⟨o, E⟩ : ∃ o, (if (ku && kv) = true then some ((u1, u2, u3), (v1, v2, v3)) else none) = o := ⟨_, rfl⟩
  rw [E]
  have HE := Lib.hid E
  clear E hu hku hv hkv
  go_enter Tryd.func31, Tryd.ntmps31
  go_wp2_with fail
  refine (gave_any Cu.out Du.out (specTimes_any x1 x2 x3 c1 c2 c3 _)).mono ?_
  rintro e W1 ⟨rfl, hb⟩
  obtain ⟨c00, c01, c02, c03, c04, c05⟩ := keep6 hb (b := w.heap.size) (v0 := .int .i64 x1) (v1 := .int .i64 x2) (v2 := .int .i64 x3) (v3 := .int .i64 y1) (v4 := .int .i64 y2) (v5 := .int .i64 y3) (by go_simp)
  have cl0 : w.heap.size < W1.heap.size := World.block_lt_of_cell? _ _ c00
  obtain ⟨c10, c11, c12⟩ := keep3 hb (b := w.heap.size + 1) (x := .int .i64 c1) (y := .int .i64 c2) (z := .int .i64 c3) (by go_simp)
  have cl1 : w.heap.size + 1 < W1.heap.size := World.block_lt_of_cell? _ _ c10
  obtain ⟨r0, r1, r2, r3, r4, r5⟩ := keep6 hb (b := w.heap.size + 1 + 1) (v0 := .int .i64 0) (v1 := .int .i64 0) (v2 := .int .i64 0) (v3 := .int .i64 0) (v4 := .int .i64 0) (v5 := .int .i64 0) (by go_simp)
  obtain ⟨f0, f1, f2, f3, f4, f5⟩ := keepf6 hb (b := w.heap.size + 1 + 1) (by go_simp) (by go_simp)
  have kz : w.heap.size + 1 + 1 < W1.heap.size := World.block_lt_of_cell? _ _ r0
  have kaW1 : Acc w W1 := by
    refine Acc.call ?_ hb
    (repeat' (first | (with_reducible first | assumption | exact Acc.refl _ | refine Acc.drew ?_ | refine Acc.drewN ?_ _ | refine Acc.alloc ?_ _ | refine Acc.setCell ?_ ?_ _) | omega))
  clear hb
  go_wp2_with fail
  refine (gave_any Cv.out Dv.out (specTimes_any y1 y2 y3 c1 c2 c3 _)).mono ?_
  rintro e W2 ⟨rfl, hb⟩
  obtain ⟨c00, c01, c02, c03, c04, c05⟩ := keep6 hb (b := w.heap.size) (v0 := .int .i64 x1) (v1 := .int .i64 x2) (v2 := .int .i64 x3) (v3 := .int .i64 y1) (v4 := .int .i64 y2) (v5 := .int .i64 y3) (by go_simp)
  have cl0 : w.heap.size < W2.heap.size := World.block_lt_of_cell? _ _ c00
  obtain ⟨c10, c11, c12⟩ := keep3 hb (b := w.heap.size + 1) (x := .int .i64 c1) (y := .int .i64 c2) (z := .int .i64 c3) (by go_simp)
  have cl1 : w.heap.size + 1 < W2.heap.size := World.block_lt_of_cell? _ _ c10
  obtain ⟨c20, c21, c22⟩ := keep3 hb (b := W1.heap.size) (x := .int .i64 u1) (y := .int .i64 u2) (z := .int .i64 u3) (by go_simp)
  have cl2 : W1.heap.size < W2.heap.size := World.block_lt_of_cell? _ _ c20
  obtain ⟨r0, r1, r2, r3, r4, r5⟩ := keep6 hb (b := w.heap.size + 1 + 1) (v0 := .int .i64 0) (v1 := .int .i64 0) (v2 := .int .i64 0) (v3 := .int .i64 0) (v4 := .int .i64 0) (v5 := .int .i64 0) (by go_simp)
  obtain ⟨f0, f1, f2, f3, f4, f5⟩ := keepf6 hb (b := w.heap.size + 1 + 1) (by go_simp) (by go_simp)
  have kz : w.heap.size + 1 + 1 < W2.heap.size := World.block_lt_of_cell? _ _ r0
  have kaW2 : Acc w W2 := by
    refine Acc.call ?_ hb
    (repeat' (first | (with_reducible first | assumption | exact Acc.refl _ | refine Acc.drew ?_ | refine Acc.drewN ?_ _ | refine Acc.alloc ?_ _ | refine Acc.setCell ?_ ?_ _) | omega))
  clear hb
  clear Cu Du Cv Dv
  cases ku with
  | false =>
    have e := HE.out
    simp only [Bool.false_and, Bool.false_eq_true, if_false] at e
    subst e
    clear HE
    go_wp2_with fail
    refine bodyPost_ret (v := .tuple #[.agg #[.int .i64 0, .int .i64 0, .int .i64 0, .int .i64 0, .int .i64 0, .int .i64 0], .bool false]) (by simp [results, Tryd.results31, go_sem, r0, r1, r2, r3, r4, r5, kz]) rfl ⟨fun _ _ _ _ _ _ h => (by cases h), fun _ => rfl, ?_⟩
    show Acc w _
    (repeat' (first | (with_reducible first | assumption | exact Acc.refl _ | refine Acc.drew ?_ | refine Acc.drewN ?_ _ | refine Acc.alloc ?_ _ | refine Acc.setCell ?_ ?_ _) | omega))
  | true =>
    cases kv with
    | false =>
      have e := HE.out
      simp only [Bool.and_false, Bool.false_eq_true, if_false] at e
      subst e
      clear HE
      go_wp2_with fail
      refine bodyPost_ret (v := .tuple #[.agg #[.int .i64 0, .int .i64 0, .int .i64 0, .int .i64 0, .int .i64 0, .int .i64 0], .bool false]) (by simp [results, Tryd.results31, go_sem, r0, r1, r2, r3, r4, r5, kz]) rfl ⟨fun _ _ _ _ _ _ h => (by cases h), fun _ => rfl, ?_⟩
      show Acc w _
      (repeat' (first | (with_reducible first | assumption | exact Acc.refl _ | refine Acc.drew ?_ | refine Acc.drewN ?_ _ | refine Acc.alloc ?_ _ | refine Acc.setCell ?_ ?_ _) | omega))
    | true =>
      have e := HE.out
      simp only [Bool.and_self, if_true] at e
      subst e
      clear HE
      go_wp2_with fail
      refine bodyPost_ret (v := .tuple #[.agg #[.int .i64 u1, .int .i64 u2, .int .i64 u3, .int .i64 v1, .int .i64 v2, .int .i64 v3], .bool true]) (by simp [results, Tryd.results31, go_sem, r0, r1, r2, r3, r4, r5, kz]) rfl ⟨fun _ _ _ _ _ _ h => (by cases h; rfl), fun h => (by cases h), ?_⟩
      show Acc w _
      (repeat' (first | (with_reducible first | assumption | exact Acc.refl _ | refine Acc.drew ?_ | refine Acc.drewN ?_ _ | refine Acc.alloc ?_ _ | refine Acc.setCell ?_ ?_ _) | omega))
def jmirrorF (x1 x2 x3 y1 y2 y3 : Int) := pairO (mirrorF x1 x2 x3) (mirrorF y1 y2 y3)
end Go.Proofs.YtbihlkienhbapabDoor
