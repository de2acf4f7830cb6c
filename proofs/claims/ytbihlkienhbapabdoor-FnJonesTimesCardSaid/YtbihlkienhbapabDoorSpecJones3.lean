/-
  The model: the vector across; dark vectors.
-/
import Derived.Test.YtbihlkienhbapabDoorSpecJones2
namespace Go.Proofs.YtbihlkienhbapabDoor
open Go.ChangeShapes Go.WideShapes Go.ChangeAt Go.RowKit
set_option linter.unusedVariables false

theorem mirror_bd {a b c u1 u2 u3 : Int} (h : partsR (mirrorF a b c) = (u1, u2, u3)) : (-2000000000 ≤ u1 ∧ u1 ≤ 2000000000) ∧ (-2000000000 ≤ u2 ∧ u2 ≤ 2000000000) := by
  unfold mirrorF at h
  split at h
  · rename_i hk
    have := okF_bd hk
    simp only [partsR, Option.getD_some, Prod.mk.injEq] at h
    omega
  · simp only [partsR, Option.getD_none, Prod.mk.injEq] at h
    omega
def jcrossF (x1 x2 x3 y1 y2 y3 : Int) : Option ((Int × Int × Int) × (Int × Int × Int)) := if (okR (mirrorF x1 x2 x3) && okR (mirrorF y1 y2 y3)) = true then some ((0 - (partsR (mirrorF y1 y2 y3)).1, 0 - (partsR (mirrorF y1 y2 y3)).2.1, (partsR (mirrorF y1 y2 y3)).2.2), partsR (mirrorF x1 x2 x3)) else none
set_option maxHeartbeats 2000000 in
theorem specJCross_any (x1 x2 x3 y1 y2 y3 : Int) (w : World) :
    Calls Tryd.prog 34 #[.agg #[.int .i64 x1, .int .i64 x2, .int .i64 x3, .int .i64 y1, .int .i64 y2, .int .i64 y3]] w (Gave6 (jcrossF x1 x2 x3 y1 y2 y3) w) := by
  obtain ⟨⟨u1, u2, u3⟩, hu⟩ : ∃ o, partsR (mirrorF x1 x2 x3) = o := ⟨_, rfl⟩
  obtain ⟨ku, hku⟩ : ∃ k, okR (mirrorF x1 x2 x3) = k := ⟨_, rfl⟩
  have Cu := Lib.hid hu
  have Du := Lib.hid hku
  obtain ⟨⟨v1, v2, v3⟩, hv⟩ : ∃ o, partsR (mirrorF y1 y2 y3) = o := ⟨_, rfl⟩
  obtain ⟨kv, hkv⟩ : ∃ k, okR (mirrorF y1 y2 y3) = k := ⟨_, rfl⟩
  have Cv := Lib.hid hv
  have Dv := Lib.hid hkv
  rw [show jcrossF x1 x2 x3 y1 y2 y3 = if (ku && kv) = true then some ((0 - v1, 0 - v2, v3), (u1, u2, u3)) else none by unfold jcrossF; rw [hu, hku, hv, hkv]]
  obtain ⟨⟨b1, b2⟩, b3, b4⟩ := mirror_bd hv
  obtain ⟨o, E⟩ : ∃ o, (if (ku && kv) = true then some ((0 - v1, 0 - v2, v3), (u1, u2, u3)) else none) = o := ⟨_, rfl⟩
  rw [E]
  have HE := Lib.hid E
  clear E hu hku hv hkv
  go_enter Tryd.func34, Tryd.ntmps34
  go_wp2_with fail
  refine (gave_any Cu.out Du.out (specMirror_any x1 x2 x3 _)).mono ?_
  rintro e W1 ⟨rfl, hb⟩
  obtain ⟨c00, c01, c02, c03, c04, c05⟩ := keep6 hb (b := w.heap.size) (v0 := .int .i64 x1) (v1 := .int .i64 x2) (v2 := .int .i64 x3) (v3 := .int .i64 y1) (v4 := .int .i64 y2) (v5 := .int .i64 y3) (by go_simp)
  have cl0 : w.heap.size < W1.heap.size := World.block_lt_of_cell? _ _ c00
  obtain ⟨r0, r1, r2, r3, r4, r5⟩ := keep6 hb (b := w.heap.size + 1) (v0 := .int .i64 0) (v1 := .int .i64 0) (v2 := .int .i64 0) (v3 := .int .i64 0) (v4 := .int .i64 0) (v5 := .int .i64 0) (by go_simp)
  obtain ⟨f0, f1, f2, f3, f4, f5⟩ := keepf6 hb (b := w.heap.size + 1) (by go_simp) (by go_simp)
  have kz : w.heap.size + 1 < W1.heap.size := World.block_lt_of_cell? _ _ r0
  have kaW1 : Acc w W1 := by
    refine Acc.call ?_ hb
    (repeat' (first | (with_reducible first | assumption | exact Acc.refl _ | refine Acc.drew ?_ | refine Acc.drewN ?_ _ | refine Acc.alloc ?_ _ | refine Acc.setCell ?_ ?_ _) | omega))
  clear hb
  go_wp2_with fail
  refine (gave_any Cv.out Dv.out (specMirror_any y1 y2 y3 _)).mono ?_
  rintro e W2 ⟨rfl, hb⟩
  obtain ⟨c00, c01, c02, c03, c04, c05⟩ := keep6 hb (b := w.heap.size) (v0 := .int .i64 x1) (v1 := .int .i64 x2) (v2 := .int .i64 x3) (v3 := .int .i64 y1) (v4 := .int .i64 y2) (v5 := .int .i64 y3) (by go_simp)
  have cl0 : w.heap.size < W2.heap.size := World.block_lt_of_cell? _ _ c00
  obtain ⟨c10, c11, c12⟩ := keep3 hb (b := W1.heap.size) (x := .int .i64 u1) (y := .int .i64 u2) (z := .int .i64 u3) (by go_simp)
  have cl1 : W1.heap.size < W2.heap.size := World.block_lt_of_cell? _ _ c10
  obtain ⟨r0, r1, r2, r3, r4, r5⟩ := keep6 hb (b := w.heap.size + 1) (v0 := .int .i64 0) (v1 := .int .i64 0) (v2 := .int .i64 0) (v3 := .int .i64 0) (v4 := .int .i64 0) (v5 := .int .i64 0) (by go_simp)
  obtain ⟨f0, f1, f2, f3, f4, f5⟩ := keepf6 hb (b := w.heap.size + 1) (by go_simp) (by go_simp)
  have kz : w.heap.size + 1 < W2.heap.size := World.block_lt_of_cell? _ _ r0
  have kaW2 : Acc w W2 := by
    refine Acc.call ?_ hb
    (repeat' (first | (with_reducible first | assumption | exact Acc.refl _ | refine Acc.drew ?_ | refine Acc.drewN ?_ _ | refine Acc.alloc ?_ _ | refine Acc.setCell ?_ ?_ _) | omega))
  clear hb
  clear Cu Du Cv Dv
  cases ku with
  | false =>
    have e := HE.out
    simp only [Bool.false_and, Bool.false_eq_true, if_false] at e
    subst e
    clear HE
    go_wp2_with fail
    refine bodyPost_ret (v := .tuple #[.agg #[.int .i64 0, .int .i64 0, .int .i64 0, .int .i64 0, .int .i64 0, .int .i64 0], .bool false]) (by simp [results, Tryd.results34, go_sem, r0, r1, r2, r3, r4, r5, kz]) rfl ⟨fun _ _ _ _ _ _ h => (by cases h), fun _ => rfl, ?_⟩
    show Acc w _
    (repeat' (first | (with_reducible first | assumption | exact Acc.refl _ | refine Acc.drew ?_ | refine Acc.drewN ?_ _ | refine Acc.alloc ?_ _ | refine Acc.setCell ?_ ?_ _) | omega))
  | true =>
    cases kv with
    | false =>
      have e := HE.out
      simp only [Bool.and_false, Bool.false_eq_true, if_false] at e
      subst e
      clear HE
      go_wp2_with fail
      refine bodyPost_ret (v := .tuple #[.agg #[.int .i64 0, .int .i64 0, .int .i64 0, .int .i64 0, .int .i64 0, .int .i64 0], .bool false]) (by simp [results, Tryd.results34, go_sem, r0, r1, r2, r3, r4, r5, kz]) rfl ⟨fun _ _ _ _ _ _ h => (by cases h), fun _ => rfl, ?_⟩
      show Acc w _
      (repeat' (first | (with_reducible first | assumption | exact Acc.refl _ | refine Acc.drew ?_ | refine Acc.drewN ?_ _ | refine Acc.alloc ?_ _ | refine Acc.setCell ?_ ?_ _) | omega))
    | true =>
      have e := HE.out
      simp only [Bool.and_self, if_true] at e
      subst e
      clear HE
      go_wp2_with fail
      refine bodyPost_ret (v := .tuple #[.agg #[.int .i64 (0 - v1), .int .i64 (0 - v2), .int .i64 v3, .int .i64 u1, .int .i64 u2, .int .i64 u3], .bool true]) (by simp [results, Tryd.results34, go_sem, r0, r1, r2, r3, r4, r5, kz]) rfl ⟨fun _ _ _ _ _ _ h => (by cases h; rfl), fun h => (by cases h), ?_⟩
      show Acc w _
      (repeat' (first | (with_reducible first | assumption | exact Acc.refl _ | refine Acc.drew ?_ | refine Acc.drewN ?_ _ | refine Acc.alloc ?_ _ | refine Acc.setCell ?_ ?_ _) | omega))
def darkB (x1 x2 x3 y1 y2 y3 : Int) : Bool := x1 == 0 && x2 == 0 && y1 == 0 && y2 == 0
end Go.Proofs.YtbihlkienhbapabDoor
