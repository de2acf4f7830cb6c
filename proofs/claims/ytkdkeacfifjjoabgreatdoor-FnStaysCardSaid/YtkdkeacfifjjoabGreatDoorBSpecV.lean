/-
  The model's vectors.
-/
import Derived.Test.YtkdkeacfifjjoabGreatDoorBMem
import Derived.Test.YtkdkeacfifjjoabGreatDoorBImplF
import Derived.Test.YtkdkeacfifjjoabGreatDoorBSpecF
import Derived.Deep.RegionHeld3
import Derived.Deep.RegionWith
import Derived.BigQuiet
import Derived.Laws.Cover3
namespace Go.Proofs.YtkdkeacfifjjoabGreatDoor
open Go.ChangeShapes Go.WideShapes Go.ChangeAt Go.RowKit
set_option linter.unusedVariables false

def addO (o p : Option (Int × Int × Int)) : Option (Int × Int × Int) := if (okR o && okR p) = true then addF (partsR o).1 (partsR o).2.1 (partsR o).2.2 (partsR p).1 (partsR p).2.1 (partsR p).2.2 else none
theorem addO_eq {o p : Option (Int × Int × Int)} {u1 u2 u3 v1 v2 v3 : Int} {k l : Bool} (hu : partsR o = (u1, u2, u3)) (hk : okR o = k) (hv : partsR p = (v1, v2, v3)) (hl : okR p = l) :
    addO o p = if (k && l) = true then addF u1 u2 u3 v1 v2 v3 else none := by
  unfold addO
  rw [hu, hk, hv, hl]
/-- Two fractions of a vector, both told. -/
def pairO (o p : Option (Int × Int × Int)) : Option ((Int × Int × Int) × (Int × Int × Int)) := if (okR o && okR p) = true then some (partsR o, partsR p) else none
def Gave6 (o : Option ((Int × Int × Int) × (Int × Int × Int))) (w : World) (e : Ending) (w' : World) : Prop :=
  (∀ u1 u2 u3 v1 v2 v3, o = some ((u1, u2, u3), (v1, v2, v3)) → e = .returned (.tuple #[.agg #[.int .i64 u1, .int .i64 u2, .int .i64 u3, .int .i64 v1, .int .i64 v2, .int .i64 v3], .bool true])) ∧ (o = none → e = .returned (.tuple #[.agg #[.int .i64 0, .int .i64 0, .int .i64 0, .int .i64 0, .int .i64 0, .int .i64 0], .bool false])) ∧ Below w.heap.size w w'
def innF (x1 x2 x3 a1 a2 a3 y1 y2 y3 b1 b2 b3 : Int) : Option (Int × Int × Int) := addO (timesF x1 x2 x3 a1 a2 a3) (timesF y1 y2 y3 b1 b2 b3)
theorem valid_at {a b : Bool} (h : a = b) {P : Program} {f : FuncId} {ar : Array Value} {w : World} (c : Calls P f ar w fun e w' => e = .returned (.bool a) ∧ Below w.heap.size w w') :
    Calls P f ar w fun e w' => e = .returned (.bool b) ∧ Below w.heap.size w w' := by subst h; exact c
set_option maxHeartbeats 1000000 in
theorem specJValid_any (x1 x2 x3 y1 y2 y3 : Int) (w : World) :
    Calls Tryz.prog 88 #[.agg #[.int .i64 x1, .int .i64 x2, .int .i64 x3, .int .i64 y1, .int .i64 y2, .int .i64 y3]] w fun e w' => e = .returned (.bool (okF x1 x2 x3 && okF y1 y2 y3)) ∧ Below w.heap.size w w' := by
  obtain ⟨k, hk⟩ : ∃ k, okF x1 x2 x3 = k := ⟨_, rfl⟩
  obtain ⟨l, hl⟩ : ∃ l, okF y1 y2 y3 = l := ⟨_, rfl⟩
  rw [hk, hl]
  have HK := Lib.hid hk
  have HL := Lib.hid hl
  clear hk hl
  go_enter Tryz.func88, Tryz.ntmps88
  go_wp2_with fail
  refine (valid_at HK.out (specValid_any x1 x2 x3 _)).mono ?_
  rintro e W1 ⟨rfl, hb⟩
  obtain ⟨c00, c01, c02, c03, c04, c05⟩ := keep6 hb (b := w.heap.size) (v0 := .int .i64 x1) (v1 := .int .i64 x2) (v2 := .int .i64 x3) (v3 := .int .i64 y1) (v4 := .int .i64 y2) (v5 := .int .i64 y3) (by go_simp)
  have cl0 : w.heap.size < W1.heap.size := World.block_lt_of_cell? _ _ c00
  have kaW1 : Acc w W1 := by
    refine Acc.call ?_ hb
    (repeat' (first | (with_reducible first | assumption | exact Acc.refl _ | refine Acc.drew ?_ | refine Acc.drewN ?_ _ | refine Acc.alloc ?_ _ | refine Acc.setCell ?_ ?_ _) | omega))
  clear hb
  cases k with
  | false =>
    go_wp2_with fail
    go_ret
    exact ⟨rfl, kaW1⟩
  | true =>
    go_wp2_with fail
    refine (valid_at HL.out (specValid_any y1 y2 y3 _)).mono ?_
    rintro e W2 ⟨rfl, hb⟩
    obtain ⟨c00, c01, c02, c03, c04, c05⟩ := keep6 hb (b := w.heap.size) (v0 := .int .i64 x1) (v1 := .int .i64 x2) (v2 := .int .i64 x3) (v3 := .int .i64 y1) (v4 := .int .i64 y2) (v5 := .int .i64 y3) (by go_simp)
    have cl0 : w.heap.size < W2.heap.size := World.block_lt_of_cell? _ _ c00
    have kaW2 : Acc w W2 := by
      refine Acc.call ?_ hb
      (repeat' (first | (with_reducible first | assumption | exact Acc.refl _ | refine Acc.drew ?_ | refine Acc.drewN ?_ _ | refine Acc.alloc ?_ _ | refine Acc.setCell ?_ ?_ _) | omega))
    clear hb
    go_wp2_with fail
    go_ret
    exact ⟨rfl, kaW2⟩
set_option maxHeartbeats 2000000 in
theorem specInn_any (x1 x2 x3 a1 a2 a3 y1 y2 y3 b1 b2 b3 : Int) (w : World) :
    Calls Tryz.prog 70 #[.agg #[.int .i64 x1, .int .i64 x2, .int .i64 x3], .agg #[.int .i64 a1, .int .i64 a2, .int .i64 a3], .agg #[.int .i64 y1, .int .i64 y2, .int .i64 y3], .agg #[.int .i64 b1, .int .i64 b2, .int .i64 b3]] w (Gave (innF x1 x2 x3 a1 a2 a3 y1 y2 y3 b1 b2 b3) w) := by
  obtain ⟨⟨u1, u2, u3⟩, hu⟩ : ∃ o, partsR (timesF x1 x2 x3 a1 a2 a3) = o := ⟨_, rfl⟩
  obtain ⟨ku, hku⟩ : ∃ k, okR (timesF x1 x2 x3 a1 a2 a3) = k := ⟨_, rfl⟩
  have Cu := Lib.hid hu
  have Du := Lib.hid hku
  obtain ⟨⟨v1, v2, v3⟩, hv⟩ : ∃ o, partsR (timesF y1 y2 y3 b1 b2 b3) = o := ⟨_, rfl⟩
  obtain ⟨kv, hkv⟩ : ∃ k, okR (timesF y1 y2 y3 b1 b2 b3) = k := ⟨_, rfl⟩
  have Cv := Lib.hid hv
  have Dv := Lib.hid hkv
  rw [show innF x1 x2 x3 a1 a2 a3 y1 y2 y3 b1 b2 b3 = _ from addO_eq hu hku hv hkv]
  obtain ⟨o, E⟩ : ∃ o, (if (ku && kv) = true then addF u1 u2 u3 v1 v2 v3 else none) = o := ⟨_, rfl⟩
  rw [E]
  have HE := Lib.hid E
  clear E hu hku hv hkv
  go_enter Tryz.func70, Tryz.ntmps70
  go_wp2_with fail
  refine (gave_any Cu.out Du.out (specTimes_any x1 x2 x3 a1 a2 a3 _)).mono ?_
  rintro e W1 ⟨rfl, hb⟩
  obtain ⟨c00, c01, c02⟩ := keep3 hb (b := w.heap.size) (x := .int .i64 x1) (y := .int .i64 x2) (z := .int .i64 x3) (by go_simp)
  have cl0 : w.heap.size < W1.heap.size := World.block_lt_of_cell? _ _ c00
  obtain ⟨c10, c11, c12⟩ := keep3 hb (b := w.heap.size + 1) (x := .int .i64 a1) (y := .int .i64 a2) (z := .int .i64 a3) (by go_simp)
  have cl1 : w.heap.size + 1 < W1.heap.size := World.block_lt_of_cell? _ _ c10
  obtain ⟨c20, c21, c22⟩ := keep3 hb (b := w.heap.size + 1 + 1) (x := .int .i64 y1) (y := .int .i64 y2) (z := .int .i64 y3) (by go_simp)
  have cl2 : w.heap.size + 1 + 1 < W1.heap.size := World.block_lt_of_cell? _ _ c20
  obtain ⟨c30, c31, c32⟩ := keep3 hb (b := w.heap.size + 1 + 1 + 1) (x := .int .i64 b1) (y := .int .i64 b2) (z := .int .i64 b3) (by go_simp)
  have cl3 : w.heap.size + 1 + 1 + 1 < W1.heap.size := World.block_lt_of_cell? _ _ c30
  obtain ⟨r0, r1, r2⟩ := keep3 hb (b := w.heap.size + 1 + 1 + 1 + 1) (x := .int .i64 0) (y := .int .i64 0) (z := .int .i64 0) (by go_simp)
  obtain ⟨f0, f1, f2⟩ := keepf3 hb (b := w.heap.size + 1 + 1 + 1 + 1) (by go_simp) (by go_simp)
  have kz : w.heap.size + 1 + 1 + 1 + 1 < W1.heap.size := World.block_lt_of_cell? _ _ r0
  have kaW1 : Acc w W1 := by
    refine Acc.call ?_ hb
    (repeat' (first | (with_reducible first | assumption | exact Acc.refl _ | refine Acc.drew ?_ | refine Acc.drewN ?_ _ | refine Acc.alloc ?_ _ | refine Acc.setCell ?_ ?_ _) | omega))
  clear hb
  go_wp2_with fail
  refine (gave_any Cv.out Dv.out (specTimes_any y1 y2 y3 b1 b2 b3 _)).mono ?_
  rintro e W2 ⟨rfl, hb⟩
  obtain ⟨c00, c01, c02⟩ := keep3 hb (b := w.heap.size) (x := .int .i64 x1) (y := .int .i64 x2) (z := .int .i64 x3) (by go_simp)
  have cl0 : w.heap.size < W2.heap.size := World.block_lt_of_cell? _ _ c00
  obtain ⟨c10, c11, c12⟩ := keep3 hb (b := w.heap.size + 1) (x := .int .i64 a1) (y := .int .i64 a2) (z := .int .i64 a3) (by go_simp)
  have cl1 : w.heap.size + 1 < W2.heap.size := World.block_lt_of_cell? _ _ c10
  obtain ⟨c20, c21, c22⟩ := keep3 hb (b := w.heap.size + 1 + 1) (x := .int .i64 y1) (y := .int .i64 y2) (z := .int .i64 y3) (by go_simp)
  have cl2 : w.heap.size + 1 + 1 < W2.heap.size := World.block_lt_of_cell? _ _ c20
  obtain ⟨c30, c31, c32⟩ := keep3 hb (b := w.heap.size + 1 + 1 + 1) (x := .int .i64 b1) (y := .int .i64 b2) (z := .int .i64 b3) (by go_simp)
  have cl3 : w.heap.size + 1 + 1 + 1 < W2.heap.size := World.block_lt_of_cell? _ _ c30
  obtain ⟨c40, c41, c42⟩ := keep3 hb (b := W1.heap.size) (x := .int .i64 u1) (y := .int .i64 u2) (z := .int .i64 u3) (by go_simp)
  have cl4 : W1.heap.size < W2.heap.size := World.block_lt_of_cell? _ _ c40
  obtain ⟨r0, r1, r2⟩ := keep3 hb (b := w.heap.size + 1 + 1 + 1 + 1) (x := .int .i64 0) (y := .int .i64 0) (z := .int .i64 0) (by go_simp)
  obtain ⟨f0, f1, f2⟩ := keepf3 hb (b := w.heap.size + 1 + 1 + 1 + 1) (by go_simp) (by go_simp)
  have kz : w.heap.size + 1 + 1 + 1 + 1 < W2.heap.size := World.block_lt_of_cell? _ _ r0
  have kaW2 : Acc w W2 := by
    refine Acc.call ?_ hb
    (repeat' (first | (with_reducible first | assumption | exact Acc.refl _ | refine Acc.drew ?_ | refine Acc.drewN ?_ _ | refine Acc.alloc ?_ _ | refine Acc.setCell ?_ ?_ _) | omega))
  clear hb
  clear Cu Du Cv Dv
  cases ku with
  | false =>
    have e := HE.out
    simp only [Bool.false_and, Bool.false_eq_true, if_false] at e
    subst e
    clear HE
    go_wp2_with fail
    refine bodyPost_ret (v := .tuple #[.agg #[.int .i64 0, .int .i64 0, .int .i64 0], .bool false]) (by simp [results, Tryz.results70, go_sem, r0, r1, r2, kz]) rfl ⟨rfl, ?_⟩
    show Acc w _
    (repeat' (first | (with_reducible first | assumption | exact Acc.refl _ | refine Acc.drew ?_ | refine Acc.drewN ?_ _ | refine Acc.alloc ?_ _ | refine Acc.setCell ?_ ?_ _) | omega))
  | true =>
    cases kv with
    | false =>
      have e := HE.out
      simp only [Bool.and_false, Bool.false_eq_true, if_false] at e
      subst e
      clear HE
      go_wp2_with fail
      refine bodyPost_ret (v := .tuple #[.agg #[.int .i64 0, .int .i64 0, .int .i64 0], .bool false]) (by simp [results, Tryz.results70, go_sem, r0, r1, r2, kz]) rfl ⟨rfl, ?_⟩
      show Acc w _
      (repeat' (first | (with_reducible first | assumption | exact Acc.refl _ | refine Acc.drew ?_ | refine Acc.drewN ?_ _ | refine Acc.alloc ?_ _ | refine Acc.setCell ?_ ?_ _) | omega))
    | true =>
      have e := HE.out
      simp only [Bool.and_self, if_true] at e
      have HO := Lib.hid e
      clear e HE
      go_wp2_with fail
      refine (specAdd_any u1 u2 u3 v1 v2 v3 _).mono ?_
      rw [HO.out]
      rintro e W3 ⟨rfl, hb⟩
      obtain ⟨c00, c01, c02⟩ := keep3 hb (b := w.heap.size) (x := .int .i64 x1) (y := .int .i64 x2) (z := .int .i64 x3) (by go_simp)
      have cl0 : w.heap.size < W3.heap.size := World.block_lt_of_cell? _ _ c00
      obtain ⟨c10, c11, c12⟩ := keep3 hb (b := w.heap.size + 1) (x := .int .i64 a1) (y := .int .i64 a2) (z := .int .i64 a3) (by go_simp)
      have cl1 : w.heap.size + 1 < W3.heap.size := World.block_lt_of_cell? _ _ c10
      obtain ⟨c20, c21, c22⟩ := keep3 hb (b := w.heap.size + 1 + 1) (x := .int .i64 y1) (y := .int .i64 y2) (z := .int .i64 y3) (by go_simp)
      have cl2 : w.heap.size + 1 + 1 < W3.heap.size := World.block_lt_of_cell? _ _ c20
      obtain ⟨c30, c31, c32⟩ := keep3 hb (b := w.heap.size + 1 + 1 + 1) (x := .int .i64 b1) (y := .int .i64 b2) (z := .int .i64 b3) (by go_simp)
      have cl3 : w.heap.size + 1 + 1 + 1 < W3.heap.size := World.block_lt_of_cell? _ _ c30
      obtain ⟨c40, c41, c42⟩ := keep3 hb (b := W1.heap.size) (x := .int .i64 u1) (y := .int .i64 u2) (z := .int .i64 u3) (by go_simp)
      have cl4 : W1.heap.size < W3.heap.size := World.block_lt_of_cell? _ _ c40
      obtain ⟨c50, c51, c52⟩ := keep3 hb (b := W2.heap.size) (x := .int .i64 v1) (y := .int .i64 v2) (z := .int .i64 v3) (by go_simp)
      have cl5 : W2.heap.size < W3.heap.size := World.block_lt_of_cell? _ _ c50
      obtain ⟨r0, r1, r2⟩ := keep3 hb (b := w.heap.size + 1 + 1 + 1 + 1) (x := .int .i64 0) (y := .int .i64 0) (z := .int .i64 0) (by go_simp)
      obtain ⟨f0, f1, f2⟩ := keepf3 hb (b := w.heap.size + 1 + 1 + 1 + 1) (by go_simp) (by go_simp)
      have kz : w.heap.size + 1 + 1 + 1 + 1 < W3.heap.size := World.block_lt_of_cell? _ _ r0
      have kaW3 : Acc w W3 := by
        refine Acc.call ?_ hb
        (repeat' (first | (with_reducible first | assumption | exact Acc.refl _ | refine Acc.drew ?_ | refine Acc.drewN ?_ _ | refine Acc.alloc ?_ _ | refine Acc.setCell ?_ ?_ _) | omega))
      clear hb
      rw [resV_eq]
      go_wp2_with fail
      refine bodyPost_ret (v := .tuple #[.agg #[.int .i64 (partsR o).1, .int .i64 (partsR o).2.1, .int .i64 (partsR o).2.2], .bool (okR o)]) (by simp [results, Tryz.results70, go_sem, r0, r1, r2]) rfl ⟨by rw [resV_eq], ?_⟩
      show Acc w _
      (repeat' (first | (with_reducible first | assumption | exact Acc.refl _ | refine Acc.drew ?_ | refine Acc.drewN ?_ _ | refine Acc.alloc ?_ _ | refine Acc.setCell ?_ ?_ _) | omega))
def jtimesF (x1 x2 x3 y1 y2 y3 c1 c2 c3 : Int) := pairO (timesF x1 x2 x3 c1 c2 c3) (timesF y1 y2 y3 c1 c2 c3)
def darkB (x1 x2 x3 y1 y2 y3 : Int) : Bool := x1 == 0 && x2 == 0 && y1 == 0 && y2 == 0
set_option maxHeartbeats 1000000 in
theorem dark_any (x1 x2 x3 y1 y2 y3 : Int) (w : World) :
    Calls Tryz.prog 50 #[.agg #[.int .i64 x1, .int .i64 x2, .int .i64 x3, .int .i64 y1, .int .i64 y2, .int .i64 y3]] w fun e w' => e = .returned (.bool (darkB x1 x2 x3 y1 y2 y3)) ∧ Below w.heap.size w w' := by
  obtain ⟨k, hk⟩ : ∃ k, darkB x1 x2 x3 y1 y2 y3 = k := ⟨_, rfl⟩
  rw [hk]
  have HK := Lib.hid hk
  clear hk
  go_enter Tryz.func50, Tryz.ntmps50
  go_wp2_with fail
  all_goals
    go_ret
    exact ⟨by rw [← HK.out]; unfold darkB; simp [*], (Below.refl _ _).alloc (Nat.le_refl _) _⟩

def vbeq (o p : Option (Int × Int × Int)) : Bool := (partsR o).1 == (partsR p).1 && (partsR o).2.1 == (partsR p).2.1 && (partsR o).2.2 == (partsR p).2.2
def alikeF (x1 x2 x3 y1 y2 y3 a1 a2 a3 b1 b2 b3 : Int) : Bool := okR (timesF x1 x2 x3 b1 b2 b3) && okR (timesF y1 y2 y3 a1 a2 a3) && vbeq (timesF x1 x2 x3 b1 b2 b3) (timesF y1 y2 y3 a1 a2 a3) && (darkB x1 x2 x3 y1 y2 y3 == darkB a1 a2 a3 b1 b2 b3)
theorem alike_none1 {x1 x2 x3 y1 y2 y3 a1 a2 a3 b1 b2 b3 : Int} (h : timesF x1 x2 x3 b1 b2 b3 = none) : alikeF x1 x2 x3 y1 y2 y3 a1 a2 a3 b1 b2 b3 = false := by unfold alikeF; rw [h]; rfl
theorem alike_none2 {x1 x2 x3 y1 y2 y3 a1 a2 a3 b1 b2 b3 : Int} (h : timesF y1 y2 y3 a1 a2 a3 = none) : alikeF x1 x2 x3 y1 y2 y3 a1 a2 a3 b1 b2 b3 = false := by unfold alikeF; rw [h]; cases timesF x1 x2 x3 b1 b2 b3 <;> rfl
theorem alike_some {x1 x2 x3 y1 y2 y3 a1 a2 a3 b1 b2 b3 u1 u2 u3 v1 v2 v3 : Int} (h : timesF x1 x2 x3 b1 b2 b3 = some (u1, u2, u3)) (k : timesF y1 y2 y3 a1 a2 a3 = some (v1, v2, v3)) : alikeF x1 x2 x3 y1 y2 y3 a1 a2 a3 b1 b2 b3 = (u1 == v1 && u2 == v2 && u3 == v3 && (darkB x1 x2 x3 y1 y2 y3 == darkB a1 a2 a3 b1 b2 b3)) := by unfold alikeF vbeq; rw [h, k]; rfl
set_option maxHeartbeats 8000000 in
theorem specJAlike_any (x1 x2 x3 y1 y2 y3 a1 a2 a3 b1 b2 b3 : Int) (w : World) :
    Calls Tryz.prog 51 #[.agg #[.int .i64 x1, .int .i64 x2, .int .i64 x3, .int .i64 y1, .int .i64 y2, .int .i64 y3], .agg #[.int .i64 a1, .int .i64 a2, .int .i64 a3, .int .i64 b1, .int .i64 b2, .int .i64 b3]] w fun e w' => e = .returned (.bool (alikeF x1 x2 x3 y1 y2 y3 a1 a2 a3 b1 b2 b3)) ∧ Below w.heap.size w w' := by
  cases hu : timesF x1 x2 x3 b1 b2 b3 with
  | none =>
    rw [alike_none1 hu]
    have HU := Lib.hid hu
    clear hu
    obtain ⟨⟨v1, v2, v3⟩, hv⟩ : ∃ o, partsR (timesF y1 y2 y3 a1 a2 a3) = o := ⟨_, rfl⟩
    obtain ⟨kv, hkv⟩ : ∃ k, okR (timesF y1 y2 y3 a1 a2 a3) = k := ⟨_, rfl⟩
    have CV := Lib.hid hv
    have DV := Lib.hid hkv
    clear hv hkv
    go_enter Tryz.func51, Tryz.ntmps51
    go_wp2_with fail
    refine (gave_none HU.out (specTimes_any x1 x2 x3 b1 b2 b3 _)).mono ?_
    rintro e W1 ⟨rfl, hb⟩
    obtain ⟨Ba, Bb⟩ : Blk W1 (w.heap.size) [.int .i64 x1, .int .i64 x2, .int .i64 x3, .int .i64 y1, .int .i64 y2, .int .i64 y3] ∧ Blk W1 (w.heap.size + 1) [.int .i64 a1, .int .i64 a2, .int .i64 a3, .int .i64 b1, .int .i64 b2, .int .i64 b3] := by
      refine ⟨?_, ?_⟩ <;> refine Blk.keep hb ?_ <;> (repeat' (first | (with_reducible first | assumption | refine Blk.drew ?_ | refine Blk.drewN ?_ _ | apply Blk.set | (refine Blk.new ?_; focus (first | rfl | (simp; done))) | refine Blk.alloc ?_ _ | refine Blk.other ?_ ?_ _) | exact eqL rfl | (refine neB ?_; omega)))
    have ca := Ba.cell
    have fa := Ba.free
    have la_W1 := Ba.lt
    have cb := Bb.cell
    have fb := Bb.free
    have lb_W1 := Bb.lt
    have kaW1 : Acc w W1 := by
      refine Acc.call ?_ hb
      (repeat' (first | (with_reducible first | assumption | exact Acc.refl _ | refine Acc.drew ?_ | refine Acc.drewN ?_ _ | refine Acc.alloc ?_ _ | refine Acc.setCell ?_ ?_ _) | (refine leB ?_; omega)))
    clear hb
    go_wp2_with fail
    refine (gave_any CV.out DV.out (specTimes_any y1 y2 y3 a1 a2 a3 _)).mono ?_
    rintro e W2 ⟨rfl, hb⟩
    obtain ⟨Ba, Bb, Bu⟩ : Blk W2 (w.heap.size) [.int .i64 x1, .int .i64 x2, .int .i64 x3, .int .i64 y1, .int .i64 y2, .int .i64 y3] ∧ Blk W2 (w.heap.size + 1) [.int .i64 a1, .int .i64 a2, .int .i64 a3, .int .i64 b1, .int .i64 b2, .int .i64 b3] ∧ Blk W2 (W1.heap.size) [.int .i64 0, .int .i64 0, .int .i64 0] := by
      refine ⟨?_, ?_, ?_⟩ <;> refine Blk.keep hb ?_ <;> (repeat' (first | (with_reducible first | assumption | refine Blk.drew ?_ | refine Blk.drewN ?_ _ | apply Blk.set | (refine Blk.new ?_; focus (first | rfl | (simp; done))) | refine Blk.alloc ?_ _ | refine Blk.other ?_ ?_ _) | exact eqL rfl | (refine neB ?_; omega)))
    have ca := Ba.cell
    have fa := Ba.free
    have la_W2 := Ba.lt
    have cb := Bb.cell
    have fb := Bb.free
    have lb_W2 := Bb.lt
    have cu := Bu.cell
    have fu := Bu.free
    have lu_W2 := Bu.lt
    have kaW2 : Acc w W2 := by
      refine Acc.call ?_ hb
      (repeat' (first | (with_reducible first | assumption | exact Acc.refl _ | refine Acc.drew ?_ | refine Acc.drewN ?_ _ | refine Acc.alloc ?_ _ | refine Acc.setCell ?_ ?_ _) | (refine leB ?_; omega)))
    clear hb
    go_upto_region 3 with fail
    go_quiet (fail)
    all_goals
      go_wp2_with fail
      go_ret
      refine ⟨rfl, ?_⟩
      show Acc w _
      (repeat' (first | (with_reducible first | assumption | exact Acc.refl _ | refine Acc.drew ?_ | refine Acc.drewN ?_ _ | refine Acc.alloc ?_ _ | refine Acc.setCell ?_ ?_ _) | (refine leB ?_; omega)))
  | some u =>
    obtain ⟨u1, u2, u3⟩ := u
    cases hv : timesF y1 y2 y3 a1 a2 a3 with
    | none =>
      rw [alike_none2 hv]
      have HU := Lib.hid hu
      have HV := Lib.hid hv
      clear hu hv
      go_enter Tryz.func51, Tryz.ntmps51
      go_wp2_with fail
      refine (gave_some HU.out (specTimes_any x1 x2 x3 b1 b2 b3 _)).mono ?_
      rintro e W1 ⟨rfl, hb⟩
      obtain ⟨Ba, Bb⟩ : Blk W1 (w.heap.size) [.int .i64 x1, .int .i64 x2, .int .i64 x3, .int .i64 y1, .int .i64 y2, .int .i64 y3] ∧ Blk W1 (w.heap.size + 1) [.int .i64 a1, .int .i64 a2, .int .i64 a3, .int .i64 b1, .int .i64 b2, .int .i64 b3] := by
        refine ⟨?_, ?_⟩ <;> refine Blk.keep hb ?_ <;> (repeat' (first | (with_reducible first | assumption | refine Blk.drew ?_ | refine Blk.drewN ?_ _ | apply Blk.set | (refine Blk.new ?_; focus (first | rfl | (simp; done))) | refine Blk.alloc ?_ _ | refine Blk.other ?_ ?_ _) | exact eqL rfl | (refine neB ?_; omega)))
      have ca := Ba.cell
      have fa := Ba.free
      have la_W1 := Ba.lt
      have cb := Bb.cell
      have fb := Bb.free
      have lb_W1 := Bb.lt
      have kaW1 : Acc w W1 := by
        refine Acc.call ?_ hb
        (repeat' (first | (with_reducible first | assumption | exact Acc.refl _ | refine Acc.drew ?_ | refine Acc.drewN ?_ _ | refine Acc.alloc ?_ _ | refine Acc.setCell ?_ ?_ _) | (refine leB ?_; omega)))
      clear hb
      go_wp2_with fail
      refine (gave_none HV.out (specTimes_any y1 y2 y3 a1 a2 a3 _)).mono ?_
      rintro e W2 ⟨rfl, hb⟩
      obtain ⟨Ba, Bb, Bu⟩ : Blk W2 (w.heap.size) [.int .i64 x1, .int .i64 x2, .int .i64 x3, .int .i64 y1, .int .i64 y2, .int .i64 y3] ∧ Blk W2 (w.heap.size + 1) [.int .i64 a1, .int .i64 a2, .int .i64 a3, .int .i64 b1, .int .i64 b2, .int .i64 b3] ∧ Blk W2 (W1.heap.size) [.int .i64 u1, .int .i64 u2, .int .i64 u3] := by
        refine ⟨?_, ?_, ?_⟩ <;> refine Blk.keep hb ?_ <;> (repeat' (first | (with_reducible first | assumption | refine Blk.drew ?_ | refine Blk.drewN ?_ _ | apply Blk.set | (refine Blk.new ?_; focus (first | rfl | (simp; done))) | refine Blk.alloc ?_ _ | refine Blk.other ?_ ?_ _) | exact eqL rfl | (refine neB ?_; omega)))
      have ca := Ba.cell
      have fa := Ba.free
      have la_W2 := Ba.lt
      have cb := Bb.cell
      have fb := Bb.free
      have lb_W2 := Bb.lt
      have cu := Bu.cell
      have fu := Bu.free
      have lu_W2 := Bu.lt
      have kaW2 : Acc w W2 := by
        refine Acc.call ?_ hb
        (repeat' (first | (with_reducible first | assumption | exact Acc.refl _ | refine Acc.drew ?_ | refine Acc.drewN ?_ _ | refine Acc.alloc ?_ _ | refine Acc.setCell ?_ ?_ _) | (refine leB ?_; omega)))
      clear hb
      go_upto_region 3 with fail
      go_quiet (fail)
      all_goals
        go_wp2_with fail
        go_ret
        refine ⟨rfl, ?_⟩
        show Acc w _
        (repeat' (first | (with_reducible first | assumption | exact Acc.refl _ | refine Acc.drew ?_ | refine Acc.drewN ?_ _ | refine Acc.alloc ?_ _ | refine Acc.setCell ?_ ?_ _) | (refine leB ?_; omega)))
    | some v =>
      obtain ⟨v1, v2, v3⟩ := v
      rw [alike_some hu hv]
      obtain ⟨ox, ob, -⟩ := times_some hu
      obtain ⟨oy, oa, -⟩ := times_some hv
      have HA := Lib.hid (show (okF x1 x2 x3 && okF y1 y2 y3) = true by rw [ox, oy]; rfl)
      have HB := Lib.hid (show (okF a1 a2 a3 && okF b1 b2 b3) = true by rw [oa, ob]; rfl)
      obtain ⟨dx, hd⟩ : ∃ k, darkB x1 x2 x3 y1 y2 y3 = k := ⟨_, rfl⟩
      obtain ⟨da, he⟩ : ∃ k, darkB a1 a2 a3 b1 b2 b3 = k := ⟨_, rfl⟩
      rw [hd, he]
      have HD := Lib.hid hd
      have HE := Lib.hid he
      have HU := Lib.hid hu
      have HV := Lib.hid hv
      clear hu hv hd he ox ob oy oa
      go_enter Tryz.func51, Tryz.ntmps51
      go_wp2_with fail
      refine (gave_some HU.out (specTimes_any x1 x2 x3 b1 b2 b3 _)).mono ?_
      rintro e W1 ⟨rfl, hb⟩
      obtain ⟨Ba, Bb⟩ : Blk W1 (w.heap.size) [.int .i64 x1, .int .i64 x2, .int .i64 x3, .int .i64 y1, .int .i64 y2, .int .i64 y3] ∧ Blk W1 (w.heap.size + 1) [.int .i64 a1, .int .i64 a2, .int .i64 a3, .int .i64 b1, .int .i64 b2, .int .i64 b3] := by
        refine ⟨?_, ?_⟩ <;> refine Blk.keep hb ?_ <;> (repeat' (first | (with_reducible first | assumption | refine Blk.drew ?_ | refine Blk.drewN ?_ _ | apply Blk.set | (refine Blk.new ?_; focus (first | rfl | (simp; done))) | refine Blk.alloc ?_ _ | refine Blk.other ?_ ?_ _) | exact eqL rfl | (refine neB ?_; omega)))
      have ca := Ba.cell
      have fa := Ba.free
      have la_W1 := Ba.lt
      have cb := Bb.cell
      have fb := Bb.free
      have lb_W1 := Bb.lt
      have kaW1 : Acc w W1 := by
        refine Acc.call ?_ hb
        (repeat' (first | (with_reducible first | assumption | exact Acc.refl _ | refine Acc.drew ?_ | refine Acc.drewN ?_ _ | refine Acc.alloc ?_ _ | refine Acc.setCell ?_ ?_ _) | (refine leB ?_; omega)))
      clear hb
      go_wp2_with fail
      refine (gave_some HV.out (specTimes_any y1 y2 y3 a1 a2 a3 _)).mono ?_
      rintro e W2 ⟨rfl, hb⟩
      obtain ⟨Ba, Bb, Bu⟩ : Blk W2 (w.heap.size) [.int .i64 x1, .int .i64 x2, .int .i64 x3, .int .i64 y1, .int .i64 y2, .int .i64 y3] ∧ Blk W2 (w.heap.size + 1) [.int .i64 a1, .int .i64 a2, .int .i64 a3, .int .i64 b1, .int .i64 b2, .int .i64 b3] ∧ Blk W2 (W1.heap.size) [.int .i64 u1, .int .i64 u2, .int .i64 u3] := by
        refine ⟨?_, ?_, ?_⟩ <;> refine Blk.keep hb ?_ <;> (repeat' (first | (with_reducible first | assumption | refine Blk.drew ?_ | refine Blk.drewN ?_ _ | apply Blk.set | (refine Blk.new ?_; focus (first | rfl | (simp; done))) | refine Blk.alloc ?_ _ | refine Blk.other ?_ ?_ _) | exact eqL rfl | (refine neB ?_; omega)))
      have ca := Ba.cell
      have fa := Ba.free
      have la_W2 := Ba.lt
      have cb := Bb.cell
      have fb := Bb.free
      have lb_W2 := Bb.lt
      have cu := Bu.cell
      have fu := Bu.free
      have lu_W2 := Bu.lt
      have kaW2 : Acc w W2 := by
        refine Acc.call ?_ hb
        (repeat' (first | (with_reducible first | assumption | exact Acc.refl _ | refine Acc.drew ?_ | refine Acc.drewN ?_ _ | refine Acc.alloc ?_ _ | refine Acc.setCell ?_ ?_ _) | (refine leB ?_; omega)))
      clear hb
      by_cases h1 : u1 = v1
      · subst h1
        by_cases h2 : u2 = v2
        · subst h2
          by_cases h3 : u3 = v3
          · subst h3
            go_upto_region 3 with fail
            first
              | go_region_held3 (fun w' => (∀ k, w'.cell? ⟨w.heap.size, k, none⟩ = [.int .i64 x1, .int .i64 x2, .int .i64 x3, .int .i64 y1, .int .i64 y2, .int .i64 y3][k]?) ∧ (∀ k, w'.cell? ⟨w.heap.size + 1, k, none⟩ = [.int .i64 a1, .int .i64 a2, .int .i64 a3, .int .i64 b1, .int .i64 b2, .int .i64 b3][k]?) ∧ (∀ k, w'.cell? ⟨W1.heap.size, k, none⟩ = [.int .i64 u1, .int .i64 u2, .int .i64 u3][k]?) ∧ (∀ k, w'.cell? ⟨W2.heap.size, k, none⟩ = [.int .i64 u1, .int .i64 u2, .int .i64 u3][k]?))
                  (((try dsimp only); (refine ⟨Blk.cell ?_, Blk.cell ?_, Blk.cell ?_, Blk.cell ?_⟩ <;> (repeat' (first | (with_reducible first | assumption | refine Blk.drew ?_ | refine Blk.drewN ?_ _ | apply Blk.set | (refine Blk.new ?_; focus (first | rfl | (simp; done))) | refine Blk.alloc ?_ _ | refine Blk.other ?_ ?_ _) | exact eqL rfl | (refine neB ?_; omega))))))
                  (first
                    | (go_at_call_of 88 (Value.int IntKind.i64 x1); refine (valid_at HA.out (specJValid_any x1 x2 x3 y1 y2 y3 _)).mono ?_; rintro e W3 ⟨rfl, hb⟩; have Ba : Blk W3 (w.heap.size) [.int .i64 x1, .int .i64 x2, .int .i64 x3, .int .i64 y1, .int .i64 y2, .int .i64 y3] := Blk.keep hb (by repeat' (first | (with_reducible first | assumption | refine Blk.drew ?_ | refine Blk.drewN ?_ _ | apply Blk.set | (refine Blk.new ?_; focus (first | rfl | (simp; done))) | refine Blk.alloc ?_ _ | refine Blk.other ?_ ?_ _) | exact eqL rfl | (refine neB ?_; omega))); have Bb : Blk W3 (w.heap.size + 1) [.int .i64 a1, .int .i64 a2, .int .i64 a3, .int .i64 b1, .int .i64 b2, .int .i64 b3] := Blk.keep hb (by repeat' (first | (with_reducible first | assumption | refine Blk.drew ?_ | refine Blk.drewN ?_ _ | apply Blk.set | (refine Blk.new ?_; focus (first | rfl | (simp; done))) | refine Blk.alloc ?_ _ | refine Blk.other ?_ ?_ _) | exact eqL rfl | (refine neB ?_; omega))); have Bu : Blk W3 (W1.heap.size) [.int .i64 u1, .int .i64 u2, .int .i64 u3] := Blk.keep hb (by repeat' (first | (with_reducible first | assumption | refine Blk.drew ?_ | refine Blk.drewN ?_ _ | apply Blk.set | (refine Blk.new ?_; focus (first | rfl | (simp; done))) | refine Blk.alloc ?_ _ | refine Blk.other ?_ ?_ _) | exact eqL rfl | (refine neB ?_; omega))); have Bv : Blk W3 (W2.heap.size) [.int .i64 u1, .int .i64 u2, .int .i64 u3] := Blk.keep hb (by repeat' (first | (with_reducible first | assumption | refine Blk.drew ?_ | refine Blk.drewN ?_ _ | apply Blk.set | (refine Blk.new ?_; focus (first | rfl | (simp; done))) | refine Blk.alloc ?_ _ | refine Blk.other ?_ ?_ _) | exact eqL rfl | (refine neB ?_; omega))); have ca := Ba.cell; have fa := Ba.free; have la_W3 := Ba.lt; have cb := Bb.cell; have fb := Bb.free; have lb_W3 := Bb.lt; have cu := Bu.cell; have fu := Bu.free; have lu_W3 := Bu.lt; have cv := Bv.cell; have fv := Bv.free; have lv_W3 := Bv.lt; have kaW3 : Acc w W3 := (by refine Acc.call ?_ hb; (repeat' (first | (with_reducible first | assumption | exact Acc.refl _ | refine Acc.drew ?_ | refine Acc.drewN ?_ _ | refine Acc.alloc ?_ _ | refine Acc.setCell ?_ ?_ _) | (refine leB ?_; omega)))); clear hb)
                    | (go_at_call_of 88 (Value.int IntKind.i64 a1); refine (valid_at HB.out (specJValid_any a1 a2 a3 b1 b2 b3 _)).mono ?_; rintro e W4 ⟨rfl, hb⟩; have Ba : Blk W4 (w.heap.size) [.int .i64 x1, .int .i64 x2, .int .i64 x3, .int .i64 y1, .int .i64 y2, .int .i64 y3] := Blk.keep hb (by repeat' (first | (with_reducible first | assumption | refine Blk.drew ?_ | refine Blk.drewN ?_ _ | apply Blk.set | (refine Blk.new ?_; focus (first | rfl | (simp; done))) | refine Blk.alloc ?_ _ | refine Blk.other ?_ ?_ _) | exact eqL rfl | (refine neB ?_; omega))); have Bb : Blk W4 (w.heap.size + 1) [.int .i64 a1, .int .i64 a2, .int .i64 a3, .int .i64 b1, .int .i64 b2, .int .i64 b3] := Blk.keep hb (by repeat' (first | (with_reducible first | assumption | refine Blk.drew ?_ | refine Blk.drewN ?_ _ | apply Blk.set | (refine Blk.new ?_; focus (first | rfl | (simp; done))) | refine Blk.alloc ?_ _ | refine Blk.other ?_ ?_ _) | exact eqL rfl | (refine neB ?_; omega))); have Bu : Blk W4 (W1.heap.size) [.int .i64 u1, .int .i64 u2, .int .i64 u3] := Blk.keep hb (by repeat' (first | (with_reducible first | assumption | refine Blk.drew ?_ | refine Blk.drewN ?_ _ | apply Blk.set | (refine Blk.new ?_; focus (first | rfl | (simp; done))) | refine Blk.alloc ?_ _ | refine Blk.other ?_ ?_ _) | exact eqL rfl | (refine neB ?_; omega))); have Bv : Blk W4 (W2.heap.size) [.int .i64 u1, .int .i64 u2, .int .i64 u3] := Blk.keep hb (by repeat' (first | (with_reducible first | assumption | refine Blk.drew ?_ | refine Blk.drewN ?_ _ | apply Blk.set | (refine Blk.new ?_; focus (first | rfl | (simp; done))) | refine Blk.alloc ?_ _ | refine Blk.other ?_ ?_ _) | exact eqL rfl | (refine neB ?_; omega))); have ca := Ba.cell; have fa := Ba.free; have la_W4 := Ba.lt; have cb := Bb.cell; have fb := Bb.free; have lb_W4 := Bb.lt; have cu := Bu.cell; have fu := Bu.free; have lu_W4 := Bu.lt; have cv := Bv.cell; have fv := Bv.free; have lv_W4 := Bv.lt; have kaW4 : Acc w W4 := (by refine Acc.call ?_ hb; (repeat' (first | (with_reducible first | assumption | exact Acc.refl _ | refine Acc.drew ?_ | refine Acc.drewN ?_ _ | refine Acc.alloc ?_ _ | refine Acc.setCell ?_ ?_ _) | (refine leB ?_; omega)))); clear hb)
                    | (go_at_call_of 50 (Value.int IntKind.i64 x1); refine (valid_at HD.out (dark_any x1 x2 x3 y1 y2 y3 _)).mono ?_; rintro e W5 ⟨rfl, hb⟩; have Ba : Blk W5 (w.heap.size) [.int .i64 x1, .int .i64 x2, .int .i64 x3, .int .i64 y1, .int .i64 y2, .int .i64 y3] := Blk.keep hb (by repeat' (first | (with_reducible first | assumption | refine Blk.drew ?_ | refine Blk.drewN ?_ _ | apply Blk.set | (refine Blk.new ?_; focus (first | rfl | (simp; done))) | refine Blk.alloc ?_ _ | refine Blk.other ?_ ?_ _) | exact eqL rfl | (refine neB ?_; omega))); have Bb : Blk W5 (w.heap.size + 1) [.int .i64 a1, .int .i64 a2, .int .i64 a3, .int .i64 b1, .int .i64 b2, .int .i64 b3] := Blk.keep hb (by repeat' (first | (with_reducible first | assumption | refine Blk.drew ?_ | refine Blk.drewN ?_ _ | apply Blk.set | (refine Blk.new ?_; focus (first | rfl | (simp; done))) | refine Blk.alloc ?_ _ | refine Blk.other ?_ ?_ _) | exact eqL rfl | (refine neB ?_; omega))); have Bu : Blk W5 (W1.heap.size) [.int .i64 u1, .int .i64 u2, .int .i64 u3] := Blk.keep hb (by repeat' (first | (with_reducible first | assumption | refine Blk.drew ?_ | refine Blk.drewN ?_ _ | apply Blk.set | (refine Blk.new ?_; focus (first | rfl | (simp; done))) | refine Blk.alloc ?_ _ | refine Blk.other ?_ ?_ _) | exact eqL rfl | (refine neB ?_; omega))); have Bv : Blk W5 (W2.heap.size) [.int .i64 u1, .int .i64 u2, .int .i64 u3] := Blk.keep hb (by repeat' (first | (with_reducible first | assumption | refine Blk.drew ?_ | refine Blk.drewN ?_ _ | apply Blk.set | (refine Blk.new ?_; focus (first | rfl | (simp; done))) | refine Blk.alloc ?_ _ | refine Blk.other ?_ ?_ _) | exact eqL rfl | (refine neB ?_; omega))); have ca := Ba.cell; have fa := Ba.free; have la_W5 := Ba.lt; have cb := Bb.cell; have fb := Bb.free; have lb_W5 := Bb.lt; have cu := Bu.cell; have fu := Bu.free; have lu_W5 := Bu.lt; have cv := Bv.cell; have fv := Bv.free; have lv_W5 := Bv.lt; have kaW5 : Acc w W5 := (by refine Acc.call ?_ hb; (repeat' (first | (with_reducible first | assumption | exact Acc.refl _ | refine Acc.drew ?_ | refine Acc.drewN ?_ _ | refine Acc.alloc ?_ _ | refine Acc.setCell ?_ ?_ _) | (refine leB ?_; omega)))); clear hb)
                    | (go_at_call_of 50 (Value.int IntKind.i64 a1); refine (valid_at HE.out (dark_any a1 a2 a3 b1 b2 b3 _)).mono ?_; rintro e W6 ⟨rfl, hb⟩; have Ba : Blk W6 (w.heap.size) [.int .i64 x1, .int .i64 x2, .int .i64 x3, .int .i64 y1, .int .i64 y2, .int .i64 y3] := Blk.keep hb (by repeat' (first | (with_reducible first | assumption | refine Blk.drew ?_ | refine Blk.drewN ?_ _ | apply Blk.set | (refine Blk.new ?_; focus (first | rfl | (simp; done))) | refine Blk.alloc ?_ _ | refine Blk.other ?_ ?_ _) | exact eqL rfl | (refine neB ?_; omega))); have Bb : Blk W6 (w.heap.size + 1) [.int .i64 a1, .int .i64 a2, .int .i64 a3, .int .i64 b1, .int .i64 b2, .int .i64 b3] := Blk.keep hb (by repeat' (first | (with_reducible first | assumption | refine Blk.drew ?_ | refine Blk.drewN ?_ _ | apply Blk.set | (refine Blk.new ?_; focus (first | rfl | (simp; done))) | refine Blk.alloc ?_ _ | refine Blk.other ?_ ?_ _) | exact eqL rfl | (refine neB ?_; omega))); have Bu : Blk W6 (W1.heap.size) [.int .i64 u1, .int .i64 u2, .int .i64 u3] := Blk.keep hb (by repeat' (first | (with_reducible first | assumption | refine Blk.drew ?_ | refine Blk.drewN ?_ _ | apply Blk.set | (refine Blk.new ?_; focus (first | rfl | (simp; done))) | refine Blk.alloc ?_ _ | refine Blk.other ?_ ?_ _) | exact eqL rfl | (refine neB ?_; omega))); have Bv : Blk W6 (W2.heap.size) [.int .i64 u1, .int .i64 u2, .int .i64 u3] := Blk.keep hb (by repeat' (first | (with_reducible first | assumption | refine Blk.drew ?_ | refine Blk.drewN ?_ _ | apply Blk.set | (refine Blk.new ?_; focus (first | rfl | (simp; done))) | refine Blk.alloc ?_ _ | refine Blk.other ?_ ?_ _) | exact eqL rfl | (refine neB ?_; omega))); have ca := Ba.cell; have fa := Ba.free; have la_W6 := Ba.lt; have cb := Bb.cell; have fb := Bb.free; have lb_W6 := Bb.lt; have cu := Bu.cell; have fu := Bu.free; have lu_W6 := Bu.lt; have cv := Bv.cell; have fv := Bv.free; have lv_W6 := Bv.lt; have kaW6 : Acc w W6 := (by refine Acc.call ?_ hb; (repeat' (first | (with_reducible first | assumption | exact Acc.refl _ | refine Acc.drew ?_ | refine Acc.drewN ?_ _ | refine Acc.alloc ?_ _ | refine Acc.setCell ?_ ?_ _) | (refine leB ?_; omega)))); clear hb))
              | fail "region"
            all_goals
              go_wp2_with fail
              go_ret
              refine ⟨by first | (simp [*]; done) | (simp [go_sem, *]; done) | (go_simp; simp [*]; done), ?_⟩
              show Acc w _
              (repeat' (first | (with_reducible first | assumption | exact Acc.refl _ | refine Acc.drew ?_ | refine Acc.drewN ?_ _ | refine Acc.alloc ?_ _ | refine Acc.setCell ?_ ?_ _) | (refine leB ?_; omega)))
          · skip
            go_upto_region 3 with fail
            first
              | go_region_with
                  (first
                    | (go_at_call_of 88 (Value.int IntKind.i64 x1); refine (valid_at HA.out (specJValid_any x1 x2 x3 y1 y2 y3 _)).mono ?_; rintro e W3 ⟨rfl, hb⟩; have Ba : Blk W3 (w.heap.size) [.int .i64 x1, .int .i64 x2, .int .i64 x3, .int .i64 y1, .int .i64 y2, .int .i64 y3] := Blk.keep hb (by repeat' (first | (with_reducible first | assumption | refine Blk.drew ?_ | refine Blk.drewN ?_ _ | apply Blk.set | (refine Blk.new ?_; focus (first | rfl | (simp; done))) | refine Blk.alloc ?_ _ | refine Blk.other ?_ ?_ _) | exact eqL rfl | (refine neB ?_; omega))); have Bb : Blk W3 (w.heap.size + 1) [.int .i64 a1, .int .i64 a2, .int .i64 a3, .int .i64 b1, .int .i64 b2, .int .i64 b3] := Blk.keep hb (by repeat' (first | (with_reducible first | assumption | refine Blk.drew ?_ | refine Blk.drewN ?_ _ | apply Blk.set | (refine Blk.new ?_; focus (first | rfl | (simp; done))) | refine Blk.alloc ?_ _ | refine Blk.other ?_ ?_ _) | exact eqL rfl | (refine neB ?_; omega))); have Bu : Blk W3 (W1.heap.size) [.int .i64 u1, .int .i64 u2, .int .i64 u3] := Blk.keep hb (by repeat' (first | (with_reducible first | assumption | refine Blk.drew ?_ | refine Blk.drewN ?_ _ | apply Blk.set | (refine Blk.new ?_; focus (first | rfl | (simp; done))) | refine Blk.alloc ?_ _ | refine Blk.other ?_ ?_ _) | exact eqL rfl | (refine neB ?_; omega))); have Bv : Blk W3 (W2.heap.size) [.int .i64 u1, .int .i64 u2, .int .i64 v3] := Blk.keep hb (by repeat' (first | (with_reducible first | assumption | refine Blk.drew ?_ | refine Blk.drewN ?_ _ | apply Blk.set | (refine Blk.new ?_; focus (first | rfl | (simp; done))) | refine Blk.alloc ?_ _ | refine Blk.other ?_ ?_ _) | exact eqL rfl | (refine neB ?_; omega))); have ca := Ba.cell; have fa := Ba.free; have la_W3 := Ba.lt; have cb := Bb.cell; have fb := Bb.free; have lb_W3 := Bb.lt; have cu := Bu.cell; have fu := Bu.free; have lu_W3 := Bu.lt; have cv := Bv.cell; have fv := Bv.free; have lv_W3 := Bv.lt; have kaW3 : Acc w W3 := (by refine Acc.call ?_ hb; (repeat' (first | (with_reducible first | assumption | exact Acc.refl _ | refine Acc.drew ?_ | refine Acc.drewN ?_ _ | refine Acc.alloc ?_ _ | refine Acc.setCell ?_ ?_ _) | (refine leB ?_; omega)))); clear hb)
                    | (go_at_call_of 88 (Value.int IntKind.i64 a1); refine (valid_at HB.out (specJValid_any a1 a2 a3 b1 b2 b3 _)).mono ?_; rintro e W4 ⟨rfl, hb⟩; have Ba : Blk W4 (w.heap.size) [.int .i64 x1, .int .i64 x2, .int .i64 x3, .int .i64 y1, .int .i64 y2, .int .i64 y3] := Blk.keep hb (by repeat' (first | (with_reducible first | assumption | refine Blk.drew ?_ | refine Blk.drewN ?_ _ | apply Blk.set | (refine Blk.new ?_; focus (first | rfl | (simp; done))) | refine Blk.alloc ?_ _ | refine Blk.other ?_ ?_ _) | exact eqL rfl | (refine neB ?_; omega))); have Bb : Blk W4 (w.heap.size + 1) [.int .i64 a1, .int .i64 a2, .int .i64 a3, .int .i64 b1, .int .i64 b2, .int .i64 b3] := Blk.keep hb (by repeat' (first | (with_reducible first | assumption | refine Blk.drew ?_ | refine Blk.drewN ?_ _ | apply Blk.set | (refine Blk.new ?_; focus (first | rfl | (simp; done))) | refine Blk.alloc ?_ _ | refine Blk.other ?_ ?_ _) | exact eqL rfl | (refine neB ?_; omega))); have Bu : Blk W4 (W1.heap.size) [.int .i64 u1, .int .i64 u2, .int .i64 u3] := Blk.keep hb (by repeat' (first | (with_reducible first | assumption | refine Blk.drew ?_ | refine Blk.drewN ?_ _ | apply Blk.set | (refine Blk.new ?_; focus (first | rfl | (simp; done))) | refine Blk.alloc ?_ _ | refine Blk.other ?_ ?_ _) | exact eqL rfl | (refine neB ?_; omega))); have Bv : Blk W4 (W2.heap.size) [.int .i64 u1, .int .i64 u2, .int .i64 v3] := Blk.keep hb (by repeat' (first | (with_reducible first | assumption | refine Blk.drew ?_ | refine Blk.drewN ?_ _ | apply Blk.set | (refine Blk.new ?_; focus (first | rfl | (simp; done))) | refine Blk.alloc ?_ _ | refine Blk.other ?_ ?_ _) | exact eqL rfl | (refine neB ?_; omega))); have ca := Ba.cell; have fa := Ba.free; have la_W4 := Ba.lt; have cb := Bb.cell; have fb := Bb.free; have lb_W4 := Bb.lt; have cu := Bu.cell; have fu := Bu.free; have lu_W4 := Bu.lt; have cv := Bv.cell; have fv := Bv.free; have lv_W4 := Bv.lt; have kaW4 : Acc w W4 := (by refine Acc.call ?_ hb; (repeat' (first | (with_reducible first | assumption | exact Acc.refl _ | refine Acc.drew ?_ | refine Acc.drewN ?_ _ | refine Acc.alloc ?_ _ | refine Acc.setCell ?_ ?_ _) | (refine leB ?_; omega)))); clear hb)
                    | (go_at_call_of 50 (Value.int IntKind.i64 x1); refine (valid_at HD.out (dark_any x1 x2 x3 y1 y2 y3 _)).mono ?_; rintro e W5 ⟨rfl, hb⟩; have Ba : Blk W5 (w.heap.size) [.int .i64 x1, .int .i64 x2, .int .i64 x3, .int .i64 y1, .int .i64 y2, .int .i64 y3] := Blk.keep hb (by repeat' (first | (with_reducible first | assumption | refine Blk.drew ?_ | refine Blk.drewN ?_ _ | apply Blk.set | (refine Blk.new ?_; focus (first | rfl | (simp; done))) | refine Blk.alloc ?_ _ | refine Blk.other ?_ ?_ _) | exact eqL rfl | (refine neB ?_; omega))); have Bb : Blk W5 (w.heap.size + 1) [.int .i64 a1, .int .i64 a2, .int .i64 a3, .int .i64 b1, .int .i64 b2, .int .i64 b3] := Blk.keep hb (by repeat' (first | (with_reducible first | assumption | refine Blk.drew ?_ | refine Blk.drewN ?_ _ | apply Blk.set | (refine Blk.new ?_; focus (first | rfl | (simp; done))) | refine Blk.alloc ?_ _ | refine Blk.other ?_ ?_ _) | exact eqL rfl | (refine neB ?_; omega))); have Bu : Blk W5 (W1.heap.size) [.int .i64 u1, .int .i64 u2, .int .i64 u3] := Blk.keep hb (by repeat' (first | (with_reducible first | assumption | refine Blk.drew ?_ | refine Blk.drewN ?_ _ | apply Blk.set | (refine Blk.new ?_; focus (first | rfl | (simp; done))) | refine Blk.alloc ?_ _ | refine Blk.other ?_ ?_ _) | exact eqL rfl | (refine neB ?_; omega))); have Bv : Blk W5 (W2.heap.size) [.int .i64 u1, .int .i64 u2, .int .i64 v3] := Blk.keep hb (by repeat' (first | (with_reducible first | assumption | refine Blk.drew ?_ | refine Blk.drewN ?_ _ | apply Blk.set | (refine Blk.new ?_; focus (first | rfl | (simp; done))) | refine Blk.alloc ?_ _ | refine Blk.other ?_ ?_ _) | exact eqL rfl | (refine neB ?_; omega))); have ca := Ba.cell; have fa := Ba.free; have la_W5 := Ba.lt; have cb := Bb.cell; have fb := Bb.free; have lb_W5 := Bb.lt; have cu := Bu.cell; have fu := Bu.free; have lu_W5 := Bu.lt; have cv := Bv.cell; have fv := Bv.free; have lv_W5 := Bv.lt; have kaW5 : Acc w W5 := (by refine Acc.call ?_ hb; (repeat' (first | (with_reducible first | assumption | exact Acc.refl _ | refine Acc.drew ?_ | refine Acc.drewN ?_ _ | refine Acc.alloc ?_ _ | refine Acc.setCell ?_ ?_ _) | (refine leB ?_; omega)))); clear hb)
                    | (go_at_call_of 50 (Value.int IntKind.i64 a1); refine (valid_at HE.out (dark_any a1 a2 a3 b1 b2 b3 _)).mono ?_; rintro e W6 ⟨rfl, hb⟩; have Ba : Blk W6 (w.heap.size) [.int .i64 x1, .int .i64 x2, .int .i64 x3, .int .i64 y1, .int .i64 y2, .int .i64 y3] := Blk.keep hb (by repeat' (first | (with_reducible first | assumption | refine Blk.drew ?_ | refine Blk.drewN ?_ _ | apply Blk.set | (refine Blk.new ?_; focus (first | rfl | (simp; done))) | refine Blk.alloc ?_ _ | refine Blk.other ?_ ?_ _) | exact eqL rfl | (refine neB ?_; omega))); have Bb : Blk W6 (w.heap.size + 1) [.int .i64 a1, .int .i64 a2, .int .i64 a3, .int .i64 b1, .int .i64 b2, .int .i64 b3] := Blk.keep hb (by repeat' (first | (with_reducible first | assumption | refine Blk.drew ?_ | refine Blk.drewN ?_ _ | apply Blk.set | (refine Blk.new ?_; focus (first | rfl | (simp; done))) | refine Blk.alloc ?_ _ | refine Blk.other ?_ ?_ _) | exact eqL rfl | (refine neB ?_; omega))); have Bu : Blk W6 (W1.heap.size) [.int .i64 u1, .int .i64 u2, .int .i64 u3] := Blk.keep hb (by repeat' (first | (with_reducible first | assumption | refine Blk.drew ?_ | refine Blk.drewN ?_ _ | apply Blk.set | (refine Blk.new ?_; focus (first | rfl | (simp; done))) | refine Blk.alloc ?_ _ | refine Blk.other ?_ ?_ _) | exact eqL rfl | (refine neB ?_; omega))); have Bv : Blk W6 (W2.heap.size) [.int .i64 u1, .int .i64 u2, .int .i64 v3] := Blk.keep hb (by repeat' (first | (with_reducible first | assumption | refine Blk.drew ?_ | refine Blk.drewN ?_ _ | apply Blk.set | (refine Blk.new ?_; focus (first | rfl | (simp; done))) | refine Blk.alloc ?_ _ | refine Blk.other ?_ ?_ _) | exact eqL rfl | (refine neB ?_; omega))); have ca := Ba.cell; have fa := Ba.free; have la_W6 := Ba.lt; have cb := Bb.cell; have fb := Bb.free; have lb_W6 := Bb.lt; have cu := Bu.cell; have fu := Bu.free; have lu_W6 := Bu.lt; have cv := Bv.cell; have fv := Bv.free; have lv_W6 := Bv.lt; have kaW6 : Acc w W6 := (by refine Acc.call ?_ hb; (repeat' (first | (with_reducible first | assumption | exact Acc.refl _ | refine Acc.drew ?_ | refine Acc.drewN ?_ _ | refine Acc.alloc ?_ _ | refine Acc.setCell ?_ ?_ _) | (refine leB ?_; omega)))); clear hb))
              | fail "region"
            all_goals
              go_wp2_with fail
              go_ret
              refine ⟨by first | (simp [*]; done) | (simp [go_sem, *]; done) | (go_simp; simp [*]; done), ?_⟩
              show Acc w _
              (repeat' (first | (with_reducible first | assumption | exact Acc.refl _ | refine Acc.drew ?_ | refine Acc.drewN ?_ _ | refine Acc.alloc ?_ _ | refine Acc.setCell ?_ ?_ _) | (refine leB ?_; omega)))
        · skip
          go_upto_region 3 with fail
          first
            | go_region_with
                (first
                  | (go_at_call_of 88 (Value.int IntKind.i64 x1); refine (valid_at HA.out (specJValid_any x1 x2 x3 y1 y2 y3 _)).mono ?_; rintro e W3 ⟨rfl, hb⟩; have Ba : Blk W3 (w.heap.size) [.int .i64 x1, .int .i64 x2, .int .i64 x3, .int .i64 y1, .int .i64 y2, .int .i64 y3] := Blk.keep hb (by repeat' (first | (with_reducible first | assumption | refine Blk.drew ?_ | refine Blk.drewN ?_ _ | apply Blk.set | (refine Blk.new ?_; focus (first | rfl | (simp; done))) | refine Blk.alloc ?_ _ | refine Blk.other ?_ ?_ _) | exact eqL rfl | (refine neB ?_; omega))); have Bb : Blk W3 (w.heap.size + 1) [.int .i64 a1, .int .i64 a2, .int .i64 a3, .int .i64 b1, .int .i64 b2, .int .i64 b3] := Blk.keep hb (by repeat' (first | (with_reducible first | assumption | refine Blk.drew ?_ | refine Blk.drewN ?_ _ | apply Blk.set | (refine Blk.new ?_; focus (first | rfl | (simp; done))) | refine Blk.alloc ?_ _ | refine Blk.other ?_ ?_ _) | exact eqL rfl | (refine neB ?_; omega))); have Bu : Blk W3 (W1.heap.size) [.int .i64 u1, .int .i64 u2, .int .i64 u3] := Blk.keep hb (by repeat' (first | (with_reducible first | assumption | refine Blk.drew ?_ | refine Blk.drewN ?_ _ | apply Blk.set | (refine Blk.new ?_; focus (first | rfl | (simp; done))) | refine Blk.alloc ?_ _ | refine Blk.other ?_ ?_ _) | exact eqL rfl | (refine neB ?_; omega))); have Bv : Blk W3 (W2.heap.size) [.int .i64 u1, .int .i64 v2, .int .i64 v3] := Blk.keep hb (by repeat' (first | (with_reducible first | assumption | refine Blk.drew ?_ | refine Blk.drewN ?_ _ | apply Blk.set | (refine Blk.new ?_; focus (first | rfl | (simp; done))) | refine Blk.alloc ?_ _ | refine Blk.other ?_ ?_ _) | exact eqL rfl | (refine neB ?_; omega))); have ca := Ba.cell; have fa := Ba.free; have la_W3 := Ba.lt; have cb := Bb.cell; have fb := Bb.free; have lb_W3 := Bb.lt; have cu := Bu.cell; have fu := Bu.free; have lu_W3 := Bu.lt; have cv := Bv.cell; have fv := Bv.free; have lv_W3 := Bv.lt; have kaW3 : Acc w W3 := (by refine Acc.call ?_ hb; (repeat' (first | (with_reducible first | assumption | exact Acc.refl _ | refine Acc.drew ?_ | refine Acc.drewN ?_ _ | refine Acc.alloc ?_ _ | refine Acc.setCell ?_ ?_ _) | (refine leB ?_; omega)))); clear hb)
                  | (go_at_call_of 88 (Value.int IntKind.i64 a1); refine (valid_at HB.out (specJValid_any a1 a2 a3 b1 b2 b3 _)).mono ?_; rintro e W4 ⟨rfl, hb⟩; have Ba : Blk W4 (w.heap.size) [.int .i64 x1, .int .i64 x2, .int .i64 x3, .int .i64 y1, .int .i64 y2, .int .i64 y3] := Blk.keep hb (by repeat' (first | (with_reducible first | assumption | refine Blk.drew ?_ | refine Blk.drewN ?_ _ | apply Blk.set | (refine Blk.new ?_; focus (first | rfl | (simp; done))) | refine Blk.alloc ?_ _ | refine Blk.other ?_ ?_ _) | exact eqL rfl | (refine neB ?_; omega))); have Bb : Blk W4 (w.heap.size + 1) [.int .i64 a1, .int .i64 a2, .int .i64 a3, .int .i64 b1, .int .i64 b2, .int .i64 b3] := Blk.keep hb (by repeat' (first | (with_reducible first | assumption | refine Blk.drew ?_ | refine Blk.drewN ?_ _ | apply Blk.set | (refine Blk.new ?_; focus (first | rfl | (simp; done))) | refine Blk.alloc ?_ _ | refine Blk.other ?_ ?_ _) | exact eqL rfl | (refine neB ?_; omega))); have Bu : Blk W4 (W1.heap.size) [.int .i64 u1, .int .i64 u2, .int .i64 u3] := Blk.keep hb (by repeat' (first | (with_reducible first | assumption | refine Blk.drew ?_ | refine Blk.drewN ?_ _ | apply Blk.set | (refine Blk.new ?_; focus (first | rfl | (simp; done))) | refine Blk.alloc ?_ _ | refine Blk.other ?_ ?_ _) | exact eqL rfl | (refine neB ?_; omega))); have Bv : Blk W4 (W2.heap.size) [.int .i64 u1, .int .i64 v2, .int .i64 v3] := Blk.keep hb (by repeat' (first | (with_reducible first | assumption | refine Blk.drew ?_ | refine Blk.drewN ?_ _ | apply Blk.set | (refine Blk.new ?_; focus (first | rfl | (simp; done))) | refine Blk.alloc ?_ _ | refine Blk.other ?_ ?_ _) | exact eqL rfl | (refine neB ?_; omega))); have ca := Ba.cell; have fa := Ba.free; have la_W4 := Ba.lt; have cb := Bb.cell; have fb := Bb.free; have lb_W4 := Bb.lt; have cu := Bu.cell; have fu := Bu.free; have lu_W4 := Bu.lt; have cv := Bv.cell; have fv := Bv.free; have lv_W4 := Bv.lt; have kaW4 : Acc w W4 := (by refine Acc.call ?_ hb; (repeat' (first | (with_reducible first | assumption | exact Acc.refl _ | refine Acc.drew ?_ | refine Acc.drewN ?_ _ | refine Acc.alloc ?_ _ | refine Acc.setCell ?_ ?_ _) | (refine leB ?_; omega)))); clear hb)
                  | (go_at_call_of 50 (Value.int IntKind.i64 x1); refine (valid_at HD.out (dark_any x1 x2 x3 y1 y2 y3 _)).mono ?_; rintro e W5 ⟨rfl, hb⟩; have Ba : Blk W5 (w.heap.size) [.int .i64 x1, .int .i64 x2, .int .i64 x3, .int .i64 y1, .int .i64 y2, .int .i64 y3] := Blk.keep hb (by repeat' (first | (with_reducible first | assumption | refine Blk.drew ?_ | refine Blk.drewN ?_ _ | apply Blk.set | (refine Blk.new ?_; focus (first | rfl | (simp; done))) | refine Blk.alloc ?_ _ | refine Blk.other ?_ ?_ _) | exact eqL rfl | (refine neB ?_; omega))); have Bb : Blk W5 (w.heap.size + 1) [.int .i64 a1, .int .i64 a2, .int .i64 a3, .int .i64 b1, .int .i64 b2, .int .i64 b3] := Blk.keep hb (by repeat' (first | (with_reducible first | assumption | refine Blk.drew ?_ | refine Blk.drewN ?_ _ | apply Blk.set | (refine Blk.new ?_; focus (first | rfl | (simp; done))) | refine Blk.alloc ?_ _ | refine Blk.other ?_ ?_ _) | exact eqL rfl | (refine neB ?_; omega))); have Bu : Blk W5 (W1.heap.size) [.int .i64 u1, .int .i64 u2, .int .i64 u3] := Blk.keep hb (by repeat' (first | (with_reducible first | assumption | refine Blk.drew ?_ | refine Blk.drewN ?_ _ | apply Blk.set | (refine Blk.new ?_; focus (first | rfl | (simp; done))) | refine Blk.alloc ?_ _ | refine Blk.other ?_ ?_ _) | exact eqL rfl | (refine neB ?_; omega))); have Bv : Blk W5 (W2.heap.size) [.int .i64 u1, .int .i64 v2, .int .i64 v3] := Blk.keep hb (by repeat' (first | (with_reducible first | assumption | refine Blk.drew ?_ | refine Blk.drewN ?_ _ | apply Blk.set | (refine Blk.new ?_; focus (first | rfl | (simp; done))) | refine Blk.alloc ?_ _ | refine Blk.other ?_ ?_ _) | exact eqL rfl | (refine neB ?_; omega))); have ca := Ba.cell; have fa := Ba.free; have la_W5 := Ba.lt; have cb := Bb.cell; have fb := Bb.free; have lb_W5 := Bb.lt; have cu := Bu.cell; have fu := Bu.free; have lu_W5 := Bu.lt; have cv := Bv.cell; have fv := Bv.free; have lv_W5 := Bv.lt; have kaW5 : Acc w W5 := (by refine Acc.call ?_ hb; (repeat' (first | (with_reducible first | assumption | exact Acc.refl _ | refine Acc.drew ?_ | refine Acc.drewN ?_ _ | refine Acc.alloc ?_ _ | refine Acc.setCell ?_ ?_ _) | (refine leB ?_; omega)))); clear hb)
                  | (go_at_call_of 50 (Value.int IntKind.i64 a1); refine (valid_at HE.out (dark_any a1 a2 a3 b1 b2 b3 _)).mono ?_; rintro e W6 ⟨rfl, hb⟩; have Ba : Blk W6 (w.heap.size) [.int .i64 x1, .int .i64 x2, .int .i64 x3, .int .i64 y1, .int .i64 y2, .int .i64 y3] := Blk.keep hb (by repeat' (first | (with_reducible first | assumption | refine Blk.drew ?_ | refine Blk.drewN ?_ _ | apply Blk.set | (refine Blk.new ?_; focus (first | rfl | (simp; done))) | refine Blk.alloc ?_ _ | refine Blk.other ?_ ?_ _) | exact eqL rfl | (refine neB ?_; omega))); have Bb : Blk W6 (w.heap.size + 1) [.int .i64 a1, .int .i64 a2, .int .i64 a3, .int .i64 b1, .int .i64 b2, .int .i64 b3] := Blk.keep hb (by repeat' (first | (with_reducible first | assumption | refine Blk.drew ?_ | refine Blk.drewN ?_ _ | apply Blk.set | (refine Blk.new ?_; focus (first | rfl | (simp; done))) | refine Blk.alloc ?_ _ | refine Blk.other ?_ ?_ _) | exact eqL rfl | (refine neB ?_; omega))); have Bu : Blk W6 (W1.heap.size) [.int .i64 u1, .int .i64 u2, .int .i64 u3] := Blk.keep hb (by repeat' (first | (with_reducible first | assumption | refine Blk.drew ?_ | refine Blk.drewN ?_ _ | apply Blk.set | (refine Blk.new ?_; focus (first | rfl | (simp; done))) | refine Blk.alloc ?_ _ | refine Blk.other ?_ ?_ _) | exact eqL rfl | (refine neB ?_; omega))); have Bv : Blk W6 (W2.heap.size) [.int .i64 u1, .int .i64 v2, .int .i64 v3] := Blk.keep hb (by repeat' (first | (with_reducible first | assumption | refine Blk.drew ?_ | refine Blk.drewN ?_ _ | apply Blk.set | (refine Blk.new ?_; focus (first | rfl | (simp; done))) | refine Blk.alloc ?_ _ | refine Blk.other ?_ ?_ _) | exact eqL rfl | (refine neB ?_; omega))); have ca := Ba.cell; have fa := Ba.free; have la_W6 := Ba.lt; have cb := Bb.cell; have fb := Bb.free; have lb_W6 := Bb.lt; have cu := Bu.cell; have fu := Bu.free; have lu_W6 := Bu.lt; have cv := Bv.cell; have fv := Bv.free; have lv_W6 := Bv.lt; have kaW6 : Acc w W6 := (by refine Acc.call ?_ hb; (repeat' (first | (with_reducible first | assumption | exact Acc.refl _ | refine Acc.drew ?_ | refine Acc.drewN ?_ _ | refine Acc.alloc ?_ _ | refine Acc.setCell ?_ ?_ _) | (refine leB ?_; omega)))); clear hb))
            | fail "region"
          all_goals
            go_wp2_with fail
            go_ret
            refine ⟨by first | (simp [*]; done) | (simp [go_sem, *]; done) | (go_simp; simp [*]; done), ?_⟩
            show Acc w _
            (repeat' (first | (with_reducible first | assumption | exact Acc.refl _ | refine Acc.drew ?_ | refine Acc.drewN ?_ _ | refine Acc.alloc ?_ _ | refine Acc.setCell ?_ ?_ _) | (refine leB ?_; omega)))
      · skip
        go_upto_region 3 with fail
        first
          | go_region_with
              (first
                | (go_at_call_of 88 (Value.int IntKind.i64 x1); refine (valid_at HA.out (specJValid_any x1 x2 x3 y1 y2 y3 _)).mono ?_; rintro e W3 ⟨rfl, hb⟩; have Ba : Blk W3 (w.heap.size) [.int .i64 x1, .int .i64 x2, .int .i64 x3, .int .i64 y1, .int .i64 y2, .int .i64 y3] := Blk.keep hb (by repeat' (first | (with_reducible first | assumption | refine Blk.drew ?_ | refine Blk.drewN ?_ _ | apply Blk.set | (refine Blk.new ?_; focus (first | rfl | (simp; done))) | refine Blk.alloc ?_ _ | refine Blk.other ?_ ?_ _) | exact eqL rfl | (refine neB ?_; omega))); have Bb : Blk W3 (w.heap.size + 1) [.int .i64 a1, .int .i64 a2, .int .i64 a3, .int .i64 b1, .int .i64 b2, .int .i64 b3] := Blk.keep hb (by repeat' (first | (with_reducible first | assumption | refine Blk.drew ?_ | refine Blk.drewN ?_ _ | apply Blk.set | (refine Blk.new ?_; focus (first | rfl | (simp; done))) | refine Blk.alloc ?_ _ | refine Blk.other ?_ ?_ _) | exact eqL rfl | (refine neB ?_; omega))); have Bu : Blk W3 (W1.heap.size) [.int .i64 u1, .int .i64 u2, .int .i64 u3] := Blk.keep hb (by repeat' (first | (with_reducible first | assumption | refine Blk.drew ?_ | refine Blk.drewN ?_ _ | apply Blk.set | (refine Blk.new ?_; focus (first | rfl | (simp; done))) | refine Blk.alloc ?_ _ | refine Blk.other ?_ ?_ _) | exact eqL rfl | (refine neB ?_; omega))); have Bv : Blk W3 (W2.heap.size) [.int .i64 v1, .int .i64 v2, .int .i64 v3] := Blk.keep hb (by repeat' (first | (with_reducible first | assumption | refine Blk.drew ?_ | refine Blk.drewN ?_ _ | apply Blk.set | (refine Blk.new ?_; focus (first | rfl | (simp; done))) | refine Blk.alloc ?_ _ | refine Blk.other ?_ ?_ _) | exact eqL rfl | (refine neB ?_; omega))); have ca := Ba.cell; have fa := Ba.free; have la_W3 := Ba.lt; have cb := Bb.cell; have fb := Bb.free; have lb_W3 := Bb.lt; have cu := Bu.cell; have fu := Bu.free; have lu_W3 := Bu.lt; have cv := Bv.cell; have fv := Bv.free; have lv_W3 := Bv.lt; have kaW3 : Acc w W3 := (by refine Acc.call ?_ hb; (repeat' (first | (with_reducible first | assumption | exact Acc.refl _ | refine Acc.drew ?_ | refine Acc.drewN ?_ _ | refine Acc.alloc ?_ _ | refine Acc.setCell ?_ ?_ _) | (refine leB ?_; omega)))); clear hb)
                | (go_at_call_of 88 (Value.int IntKind.i64 a1); refine (valid_at HB.out (specJValid_any a1 a2 a3 b1 b2 b3 _)).mono ?_; rintro e W4 ⟨rfl, hb⟩; have Ba : Blk W4 (w.heap.size) [.int .i64 x1, .int .i64 x2, .int .i64 x3, .int .i64 y1, .int .i64 y2, .int .i64 y3] := Blk.keep hb (by repeat' (first | (with_reducible first | assumption | refine Blk.drew ?_ | refine Blk.drewN ?_ _ | apply Blk.set | (refine Blk.new ?_; focus (first | rfl | (simp; done))) | refine Blk.alloc ?_ _ | refine Blk.other ?_ ?_ _) | exact eqL rfl | (refine neB ?_; omega))); have Bb : Blk W4 (w.heap.size + 1) [.int .i64 a1, .int .i64 a2, .int .i64 a3, .int .i64 b1, .int .i64 b2, .int .i64 b3] := Blk.keep hb (by repeat' (first | (with_reducible first | assumption | refine Blk.drew ?_ | refine Blk.drewN ?_ _ | apply Blk.set | (refine Blk.new ?_; focus (first | rfl | (simp; done))) | refine Blk.alloc ?_ _ | refine Blk.other ?_ ?_ _) | exact eqL rfl | (refine neB ?_; omega))); have Bu : Blk W4 (W1.heap.size) [.int .i64 u1, .int .i64 u2, .int .i64 u3] := Blk.keep hb (by repeat' (first | (with_reducible first | assumption | refine Blk.drew ?_ | refine Blk.drewN ?_ _ | apply Blk.set | (refine Blk.new ?_; focus (first | rfl | (simp; done))) | refine Blk.alloc ?_ _ | refine Blk.other ?_ ?_ _) | exact eqL rfl | (refine neB ?_; omega))); have Bv : Blk W4 (W2.heap.size) [.int .i64 v1, .int .i64 v2, .int .i64 v3] := Blk.keep hb (by repeat' (first | (with_reducible first | assumption | refine Blk.drew ?_ | refine Blk.drewN ?_ _ | apply Blk.set | (refine Blk.new ?_; focus (first | rfl | (simp; done))) | refine Blk.alloc ?_ _ | refine Blk.other ?_ ?_ _) | exact eqL rfl | (refine neB ?_; omega))); have ca := Ba.cell; have fa := Ba.free; have la_W4 := Ba.lt; have cb := Bb.cell; have fb := Bb.free; have lb_W4 := Bb.lt; have cu := Bu.cell; have fu := Bu.free; have lu_W4 := Bu.lt; have cv := Bv.cell; have fv := Bv.free; have lv_W4 := Bv.lt; have kaW4 : Acc w W4 := (by refine Acc.call ?_ hb; (repeat' (first | (with_reducible first | assumption | exact Acc.refl _ | refine Acc.drew ?_ | refine Acc.drewN ?_ _ | refine Acc.alloc ?_ _ | refine Acc.setCell ?_ ?_ _) | (refine leB ?_; omega)))); clear hb)
                | (go_at_call_of 50 (Value.int IntKind.i64 x1); refine (valid_at HD.out (dark_any x1 x2 x3 y1 y2 y3 _)).mono ?_; rintro e W5 ⟨rfl, hb⟩; have Ba : Blk W5 (w.heap.size) [.int .i64 x1, .int .i64 x2, .int .i64 x3, .int .i64 y1, .int .i64 y2, .int .i64 y3] := Blk.keep hb (by repeat' (first | (with_reducible first | assumption | refine Blk.drew ?_ | refine Blk.drewN ?_ _ | apply Blk.set | (refine Blk.new ?_; focus (first | rfl | (simp; done))) | refine Blk.alloc ?_ _ | refine Blk.other ?_ ?_ _) | exact eqL rfl | (refine neB ?_; omega))); have Bb : Blk W5 (w.heap.size + 1) [.int .i64 a1, .int .i64 a2, .int .i64 a3, .int .i64 b1, .int .i64 b2, .int .i64 b3] := Blk.keep hb (by repeat' (first | (with_reducible first | assumption | refine Blk.drew ?_ | refine Blk.drewN ?_ _ | apply Blk.set | (refine Blk.new ?_; focus (first | rfl | (simp; done))) | refine Blk.alloc ?_ _ | refine Blk.other ?_ ?_ _) | exact eqL rfl | (refine neB ?_; omega))); have Bu : Blk W5 (W1.heap.size) [.int .i64 u1, .int .i64 u2, .int .i64 u3] := Blk.keep hb (by repeat' (first | (with_reducible first | assumption | refine Blk.drew ?_ | refine Blk.drewN ?_ _ | apply Blk.set | (refine Blk.new ?_; focus (first | rfl | (simp; done))) | refine Blk.alloc ?_ _ | refine Blk.other ?_ ?_ _) | exact eqL rfl | (refine neB ?_; omega))); have Bv : Blk W5 (W2.heap.size) [.int .i64 v1, .int .i64 v2, .int .i64 v3] := Blk.keep hb (by repeat' (first | (with_reducible first | assumption | refine Blk.drew ?_ | refine Blk.drewN ?_ _ | apply Blk.set | (refine Blk.new ?_; focus (first | rfl | (simp; done))) | refine Blk.alloc ?_ _ | refine Blk.other ?_ ?_ _) | exact eqL rfl | (refine neB ?_; omega))); have ca := Ba.cell; have fa := Ba.free; have la_W5 := Ba.lt; have cb := Bb.cell; have fb := Bb.free; have lb_W5 := Bb.lt; have cu := Bu.cell; have fu := Bu.free; have lu_W5 := Bu.lt; have cv := Bv.cell; have fv := Bv.free; have lv_W5 := Bv.lt; have kaW5 : Acc w W5 := (by refine Acc.call ?_ hb; (repeat' (first | (with_reducible first | assumption | exact Acc.refl _ | refine Acc.drew ?_ | refine Acc.drewN ?_ _ | refine Acc.alloc ?_ _ | refine Acc.setCell ?_ ?_ _) | (refine leB ?_; omega)))); clear hb)
                | (go_at_call_of 50 (Value.int IntKind.i64 a1); refine (valid_at HE.out (dark_any a1 a2 a3 b1 b2 b3 _)).mono ?_; rintro e W6 ⟨rfl, hb⟩; have Ba : Blk W6 (w.heap.size) [.int .i64 x1, .int .i64 x2, .int .i64 x3, .int .i64 y1, .int .i64 y2, .int .i64 y3] := Blk.keep hb (by repeat' (first | (with_reducible first | assumption | refine Blk.drew ?_ | refine Blk.drewN ?_ _ | apply Blk.set | (refine Blk.new ?_; focus (first | rfl | (simp; done))) | refine Blk.alloc ?_ _ | refine Blk.other ?_ ?_ _) | exact eqL rfl | (refine neB ?_; omega))); have Bb : Blk W6 (w.heap.size + 1) [.int .i64 a1, .int .i64 a2, .int .i64 a3, .int .i64 b1, .int .i64 b2, .int .i64 b3] := Blk.keep hb (by repeat' (first | (with_reducible first | assumption | refine Blk.drew ?_ | refine Blk.drewN ?_ _ | apply Blk.set | (refine Blk.new ?_; focus (first | rfl | (simp; done))) | refine Blk.alloc ?_ _ | refine Blk.other ?_ ?_ _) | exact eqL rfl | (refine neB ?_; omega))); have Bu : Blk W6 (W1.heap.size) [.int .i64 u1, .int .i64 u2, .int .i64 u3] := Blk.keep hb (by repeat' (first | (with_reducible first | assumption | refine Blk.drew ?_ | refine Blk.drewN ?_ _ | apply Blk.set | (refine Blk.new ?_; focus (first | rfl | (simp; done))) | refine Blk.alloc ?_ _ | refine Blk.other ?_ ?_ _) | exact eqL rfl | (refine neB ?_; omega))); have Bv : Blk W6 (W2.heap.size) [.int .i64 v1, .int .i64 v2, .int .i64 v3] := Blk.keep hb (by repeat' (first | (with_reducible first | assumption | refine Blk.drew ?_ | refine Blk.drewN ?_ _ | apply Blk.set | (refine Blk.new ?_; focus (first | rfl | (simp; done))) | refine Blk.alloc ?_ _ | refine Blk.other ?_ ?_ _) | exact eqL rfl | (refine neB ?_; omega))); have ca := Ba.cell; have fa := Ba.free; have la_W6 := Ba.lt; have cb := Bb.cell; have fb := Bb.free; have lb_W6 := Bb.lt; have cu := Bu.cell; have fu := Bu.free; have lu_W6 := Bu.lt; have cv := Bv.cell; have fv := Bv.free; have lv_W6 := Bv.lt; have kaW6 : Acc w W6 := (by refine Acc.call ?_ hb; (repeat' (first | (with_reducible first | assumption | exact Acc.refl _ | refine Acc.drew ?_ | refine Acc.drewN ?_ _ | refine Acc.alloc ?_ _ | refine Acc.setCell ?_ ?_ _) | (refine leB ?_; omega)))); clear hb))
          | fail "region"
        all_goals
          go_wp2_with fail
          go_ret
          refine ⟨by first | (simp [*]; done) | (simp [go_sem, *]; done) | (go_simp; simp [*]; done), ?_⟩
          show Acc w _
          (repeat' (first | (with_reducible first | assumption | exact Acc.refl _ | refine Acc.drew ?_ | refine Acc.drewN ?_ _ | refine Acc.alloc ?_ _ | refine Acc.setCell ?_ ?_ _) | (refine leB ?_; omega)))

theorem addO_some {o p : Option (Int × Int × Int)} {r : Int × Int × Int} (h : addO o p = some r) : ∃ u1 u2 u3 v1 v2 v3, o = some (u1, u2, u3) ∧ p = some (v1, v2, v3) ∧ sumF 1 u1 u2 u3 v1 v2 v3 = some r := by
  cases o with
  | none => simp [addO, okR] at h
  | some u =>
    cases p with
    | none => simp [addO, okR] at h
    | some v =>
      obtain ⟨u1, u2, u3⟩ := u
      obtain ⟨v1, v2, v3⟩ := v
      exact ⟨_, _, _, _, _, _, rfl, rfl, by simpa [addO, okR, partsR, addF] using h⟩
theorem addO_of {o p : Option (Int × Int × Int)} {u1 u2 u3 v1 v2 v3 : Int} {r : Int × Int × Int} (h1 : o = some (u1, u2, u3)) (h2 : p = some (v1, v2, v3)) (h3 : sumF 1 u1 u2 u3 v1 v2 v3 = some r) : addO o p = some r := by
  subst h1 h2
  simpa [addO, okR, partsR, addF] using h3
theorem pair_some {o p : Option (Int × Int × Int)} {u v : Int × Int × Int} (h : pairO o p = some (u, v)) : o = some u ∧ p = some v := by
  cases o <;> cases p <;> simp_all [pairO, okR, partsR]
theorem pair_of {o p : Option (Int × Int × Int)} {u v : Int × Int × Int} (h1 : o = some u) (h2 : p = some v) : pairO o p = some (u, v) := by
  subst h1 h2
  rfl
theorem okF_zero1 : okF 0 0 1 = true := by decide
theorem dark_iff {x1 x2 x3 y1 y2 y3 : Int} : darkB x1 x2 x3 y1 y2 y3 = true ↔ x1 = 0 ∧ x2 = 0 ∧ y1 = 0 ∧ y2 = 0 := by
  unfold darkB
  simp [and_assoc]
theorem rv_is0 {x z : Int} (hz : 1 ≤ z) : rv x z = 0 ↔ x = 0 := by
  have := rv_eq (x := x) (p := 0) hz (okF_den okF_zero1)
  rw [rv_zero] at this
  simpa using this
end Go.Proofs.YtkdkeacfifjjoabGreatDoor
