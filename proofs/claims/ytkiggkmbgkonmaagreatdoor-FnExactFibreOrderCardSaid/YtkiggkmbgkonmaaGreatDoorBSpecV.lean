/-
  The model's vectors.
-/
import Derived.Test.YtkiggkmbgkonmaaGreatDoorBMem
import Derived.Test.YtkiggkmbgkonmaaGreatDoorBImplF
import Derived.Test.YtkiggkmbgkonmaaGreatDoorBSpecF
import Derived.Deep.RegionHeld3
import Derived.Deep.RegionWith
import Derived.BigQuiet
import Derived.Laws.Cover3
namespace Go.Proofs.YtkiggkmbgkonmaaGreatDoor
open Go.ChangeShapes Go.WideShapes Go.ChangeAt Go.RowKit
set_option linter.unusedVariables false

def addO (o p : Option (Int × Int × Int)) : Option (Int × Int × Int) := if (okR o && okR p) = true then addF (partsR o).1 (partsR o).2.1 (partsR o).2.2 (partsR p).1 (partsR p).2.1 (partsR p).2.2 else none
theorem addO_eq {o p : Option (Int × Int × Int)} {u1 u2 u3 v1 v2 v3 : Int} {k l : Bool} (hu : partsR o = (u1, u2, u3)) (hk : okR o = k) (hv : partsR p = (v1, v2, v3)) (hl : okR p = l) :
    addO o p = if (k && l) = true then addF u1 u2 u3 v1 v2 v3 else none := by
  unfold addO
  rw [hu, hk, hv, hl]
def innF (x1 x2 x3 a1 a2 a3 y1 y2 y3 b1 b2 b3 : Int) : Option (Int × Int × Int) := addO (timesF x1 x2 x3 a1 a2 a3) (timesF y1 y2 y3 b1 b2 b3)
theorem valid_at {a b : Bool} (h : a = b) {P : Program} {f : FuncId} {ar : Array Value} {w : World} (c : Calls P f ar w fun e w' => e = .returned (.bool a) ∧ Below w.heap.size w w') :
    Calls P f ar w fun e w' => e = .returned (.bool b) ∧ Below w.heap.size w w' := by subst h; exact c
set_option maxHeartbeats 2000000 in
theorem specInn_any (x1 x2 x3 a1 a2 a3 y1 y2 y3 b1 b2 b3 : Int) (w : World) :
    Calls Tryz.prog 55 #[.agg #[.int .i64 x1, .int .i64 x2, .int .i64 x3], .agg #[.int .i64 a1, .int .i64 a2, .int .i64 a3], .agg #[.int .i64 y1, .int .i64 y2, .int .i64 y3], .agg #[.int .i64 b1, .int .i64 b2, .int .i64 b3]] w (Gave (innF x1 x2 x3 a1 a2 a3 y1 y2 y3 b1 b2 b3) w) := by
  obtain ⟨⟨u1, u2, u3⟩, hu⟩ : ∃ o, partsR (timesF x1 x2 x3 a1 a2 a3) = o := ⟨_, rfl⟩
  obtain ⟨ku, hku⟩ : ∃ k, okR (timesF x1 x2 x3 a1 a2 a3) = k := ⟨_, rfl⟩
  have Cu := Lib.hid hu
  have Du := Lib.hid hku
  obtain ⟨⟨v1, v2, v3⟩, hv⟩ : ∃ o, partsR (timesF y1 y2 y3 b1 b2 b3) = o := ⟨_, rfl⟩
  obtain ⟨kv, hkv⟩ : ∃ k, okR (timesF y1 y2 y3 b1 b2 b3) = k := ⟨_, rfl⟩
  have Cv := Lib.hid hv
  have Dv := Lib.hid hkv
  rw [show innF x1 x2 x3 a1 a2 a3 y1 y2 y3 b1 b2 b3 = _ from addO_eq hu hku hv hkv]
  obtain ⟨o, E⟩ : ∃ o, (if (ku && kv) = true then addF u1 u2 u3 v1 v2 v3 else none) = o := ⟨_, rfl⟩
  rw [E]
  have HE := Lib.hid E
  clear E hu hku hv hkv
  go_enter Tryz.func55, Tryz.ntmps55
  go_wp2_with fail
  refine (gave_any Cu.out Du.out (specTimes_any x1 x2 x3 a1 a2 a3 _)).mono ?_
  rintro e W1 ⟨rfl, hb⟩
  obtain ⟨c00, c01, c02⟩ := keep3 hb (b := w.heap.size) (x := .int .i64 x1) (y := .int .i64 x2) (z := .int .i64 x3) (by go_simp)
  have cl0 : w.heap.size < W1.heap.size := World.block_lt_of_cell? _ _ c00
  obtain ⟨c10, c11, c12⟩ := keep3 hb (b := w.heap.size + 1) (x := .int .i64 a1) (y := .int .i64 a2) (z := .int .i64 a3) (by go_simp)
  have cl1 : w.heap.size + 1 < W1.heap.size := World.block_lt_of_cell? _ _ c10
  obtain ⟨c20, c21, c22⟩ := keep3 hb (b := w.heap.size + 1 + 1) (x := .int .i64 y1) (y := .int .i64 y2) (z := .int .i64 y3) (by go_simp)
  have cl2 : w.heap.size + 1 + 1 < W1.heap.size := World.block_lt_of_cell? _ _ c20
  obtain ⟨c30, c31, c32⟩ := keep3 hb (b := w.heap.size + 1 + 1 + 1) (x := .int .i64 b1) (y := .int .i64 b2) (z := .int .i64 b3) (by go_simp)
  have cl3 : w.heap.size + 1 + 1 + 1 < W1.heap.size := World.block_lt_of_cell? _ _ c30
  obtain ⟨r0, r1, r2⟩ := keep3 hb (b := w.heap.size + 1 + 1 + 1 + 1) (x := .int .i64 0) (y := .int .i64 0) (z := .int .i64 0) (by go_simp)
  obtain ⟨f0, f1, f2⟩ := keepf3 hb (b := w.heap.size + 1 + 1 + 1 + 1) (by go_simp) (by go_simp)
  have kz : w.heap.size + 1 + 1 + 1 + 1 < W1.heap.size := World.block_lt_of_cell? _ _ r0
  have kaW1 : Acc w W1 := by
    refine Acc.call ?_ hb
    (repeat' (first | (with_reducible first | assumption | exact Acc.refl _ | refine Acc.drew ?_ | refine Acc.drewN ?_ _ | refine Acc.alloc ?_ _ | refine Acc.setCell ?_ ?_ _) | omega))
  clear hb
  go_wp2_with fail
  refine (gave_any Cv.out Dv.out (specTimes_any y1 y2 y3 b1 b2 b3 _)).mono ?_
  rintro e W2 ⟨rfl, hb⟩
  obtain ⟨c00, c01, c02⟩ := keep3 hb (b := w.heap.size) (x := .int .i64 x1) (y := .int .i64 x2) (z := .int .i64 x3) (by go_simp)
  have cl0 : w.heap.size < W2.heap.size := World.block_lt_of_cell? _ _ c00
  obtain ⟨c10, c11, c12⟩ := keep3 hb (b := w.heap.size + 1) (x := .int .i64 a1) (y := .int .i64 a2) (z := .int .i64 a3) (by go_simp)
  have cl1 : w.heap.size + 1 < W2.heap.size := World.block_lt_of_cell? _ _ c10
  obtain ⟨c20, c21, c22⟩ := keep3 hb (b := w.heap.size + 1 + 1) (x := .int .i64 y1) (y := .int .i64 y2) (z := .int .i64 y3) (by go_simp)
  have cl2 : w.heap.size + 1 + 1 < W2.heap.size := World.block_lt_of_cell? _ _ c20
  obtain ⟨c30, c31, c32⟩ := keep3 hb (b := w.heap.size + 1 + 1 + 1) (x := .int .i64 b1) (y := .int .i64 b2) (z := .int .i64 b3) (by go_simp)
  have cl3 : w.heap.size + 1 + 1 + 1 < W2.heap.size := World.block_lt_of_cell? _ _ c30
  obtain ⟨c40, c41, c42⟩ := keep3 hb (b := W1.heap.size) (x := .int .i64 u1) (y := .int .i64 u2) (z := .int .i64 u3) (by go_simp)
  have cl4 : W1.heap.size < W2.heap.size := World.block_lt_of_cell? _ _ c40
  obtain ⟨r0, r1, r2⟩ := keep3 hb (b := w.heap.size + 1 + 1 + 1 + 1) (x := .int .i64 0) (y := .int .i64 0) (z := .int .i64 0) (by go_simp)
  obtain ⟨f0, f1, f2⟩ := keepf3 hb (b := w.heap.size + 1 + 1 + 1 + 1) (by go_simp) (by go_simp)
  have kz : w.heap.size + 1 + 1 + 1 + 1 < W2.heap.size := World.block_lt_of_cell? _ _ r0
  have kaW2 : Acc w W2 := by
    refine Acc.call ?_ hb
    (repeat' (first | (with_reducible first | assumption | exact Acc.refl _ | refine Acc.drew ?_ | refine Acc.drewN ?_ _ | refine Acc.alloc ?_ _ | refine Acc.setCell ?_ ?_ _) | omega))
  clear hb
  clear Cu Du Cv Dv
  cases ku with
  | false =>
    have e := HE.out
    simp only [Bool.false_and, Bool.false_eq_true, if_false] at e
    subst e
    clear HE
    go_wp2_with fail
    refine bodyPost_ret (v := .tuple #[.agg #[.int .i64 0, .int .i64 0, .int .i64 0], .bool false]) (by simp [results, Tryz.results55, go_sem, r0, r1, r2, kz]) rfl ⟨rfl, ?_⟩
    show Acc w _
    (repeat' (first | (with_reducible first | assumption | exact Acc.refl _ | refine Acc.drew ?_ | refine Acc.drewN ?_ _ | refine Acc.alloc ?_ _ | refine Acc.setCell ?_ ?_ _) | omega))
  | true =>
    cases kv with
    | false =>
      have e := HE.out
      simp only [Bool.and_false, Bool.false_eq_true, if_false] at e
      subst e
      clear HE
      go_wp2_with fail
      refine bodyPost_ret (v := .tuple #[.agg #[.int .i64 0, .int .i64 0, .int .i64 0], .bool false]) (by simp [results, Tryz.results55, go_sem, r0, r1, r2, kz]) rfl ⟨rfl, ?_⟩
      show Acc w _
      (repeat' (first | (with_reducible first | assumption | exact Acc.refl _ | refine Acc.drew ?_ | refine Acc.drewN ?_ _ | refine Acc.alloc ?_ _ | refine Acc.setCell ?_ ?_ _) | omega))
    | true =>
      have e := HE.out
      simp only [Bool.and_self, if_true] at e
      have HO := Lib.hid e
      clear e HE
      go_wp2_with fail
      refine (specAdd_any u1 u2 u3 v1 v2 v3 _).mono ?_
      rw [HO.out]
      rintro e W3 ⟨rfl, hb⟩
      obtain ⟨c00, c01, c02⟩ := keep3 hb (b := w.heap.size) (x := .int .i64 x1) (y := .int .i64 x2) (z := .int .i64 x3) (by go_simp)
      have cl0 : w.heap.size < W3.heap.size := World.block_lt_of_cell? _ _ c00
      obtain ⟨c10, c11, c12⟩ := keep3 hb (b := w.heap.size + 1) (x := .int .i64 a1) (y := .int .i64 a2) (z := .int .i64 a3) (by go_simp)
      have cl1 : w.heap.size + 1 < W3.heap.size := World.block_lt_of_cell? _ _ c10
      obtain ⟨c20, c21, c22⟩ := keep3 hb (b := w.heap.size + 1 + 1) (x := .int .i64 y1) (y := .int .i64 y2) (z := .int .i64 y3) (by go_simp)
      have cl2 : w.heap.size + 1 + 1 < W3.heap.size := World.block_lt_of_cell? _ _ c20
      obtain ⟨c30, c31, c32⟩ := keep3 hb (b := w.heap.size + 1 + 1 + 1) (x := .int .i64 b1) (y := .int .i64 b2) (z := .int .i64 b3) (by go_simp)
      have cl3 : w.heap.size + 1 + 1 + 1 < W3.heap.size := World.block_lt_of_cell? _ _ c30
      obtain ⟨c40, c41, c42⟩ := keep3 hb (b := W1.heap.size) (x := .int .i64 u1) (y := .int .i64 u2) (z := .int .i64 u3) (by go_simp)
      have cl4 : W1.heap.size < W3.heap.size := World.block_lt_of_cell? _ _ c40
      obtain ⟨c50, c51, c52⟩ := keep3 hb (b := W2.heap.size) (x := .int .i64 v1) (y := .int .i64 v2) (z := .int .i64 v3) (by go_simp)
      have cl5 : W2.heap.size < W3.heap.size := World.block_lt_of_cell? _ _ c50
      obtain ⟨r0, r1, r2⟩ := keep3 hb (b := w.heap.size + 1 + 1 + 1 + 1) (x := .int .i64 0) (y := .int .i64 0) (z := .int .i64 0) (by go_simp)
      obtain ⟨f0, f1, f2⟩ := keepf3 hb (b := w.heap.size + 1 + 1 + 1 + 1) (by go_simp) (by go_simp)
      have kz : w.heap.size + 1 + 1 + 1 + 1 < W3.heap.size := World.block_lt_of_cell? _ _ r0
      have kaW3 : Acc w W3 := by
        refine Acc.call ?_ hb
        (repeat' (first | (with_reducible first | assumption | exact Acc.refl _ | refine Acc.drew ?_ | refine Acc.drewN ?_ _ | refine Acc.alloc ?_ _ | refine Acc.setCell ?_ ?_ _) | omega))
      clear hb
      rw [resV_eq]
      go_wp2_with fail
      refine bodyPost_ret (v := .tuple #[.agg #[.int .i64 (partsR o).1, .int .i64 (partsR o).2.1, .int .i64 (partsR o).2.2], .bool (okR o)]) (by simp [results, Tryz.results55, go_sem, r0, r1, r2]) rfl ⟨by rw [resV_eq], ?_⟩
      show Acc w _
      (repeat' (first | (with_reducible first | assumption | exact Acc.refl _ | refine Acc.drew ?_ | refine Acc.drewN ?_ _ | refine Acc.alloc ?_ _ | refine Acc.setCell ?_ ?_ _) | omega))
theorem addO_some {o p : Option (Int × Int × Int)} {r : Int × Int × Int} (h : addO o p = some r) : ∃ u1 u2 u3 v1 v2 v3, o = some (u1, u2, u3) ∧ p = some (v1, v2, v3) ∧ sumF 1 u1 u2 u3 v1 v2 v3 = some r := by
  cases o with
  | none => simp [addO, okR] at h
  | some u =>
    cases p with
    | none => simp [addO, okR] at h
    | some v =>
      obtain ⟨u1, u2, u3⟩ := u
      obtain ⟨v1, v2, v3⟩ := v
      exact ⟨_, _, _, _, _, _, rfl, rfl, by simpa [addO, okR, partsR, addF] using h⟩
theorem addO_of {o p : Option (Int × Int × Int)} {u1 u2 u3 v1 v2 v3 : Int} {r : Int × Int × Int} (h1 : o = some (u1, u2, u3)) (h2 : p = some (v1, v2, v3)) (h3 : sumF 1 u1 u2 u3 v1 v2 v3 = some r) : addO o p = some r := by
  subst h1 h2
  simpa [addO, okR, partsR, addF] using h3
theorem okF_zero1 : okF 0 0 1 = true := by decide
theorem rv_is0 {x z : Int} (hz : 1 ≤ z) : rv x z = 0 ↔ x = 0 := by
  have := rv_eq (x := x) (p := 0) hz (okF_den okF_zero1)
  rw [rv_zero] at this
  simpa using this
end Go.Proofs.YtkiggkmbgkonmaaGreatDoor
