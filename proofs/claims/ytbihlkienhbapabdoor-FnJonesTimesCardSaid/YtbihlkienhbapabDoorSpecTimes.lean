/-
  The model: sums and differences as they are called; products.
-/
import Derived.Test.YtbihlkienhbapabDoorSpecSum
namespace Go.Proofs.YtbihlkienhbapabDoor
open Go.ChangeShapes Go.WideShapes Go.ChangeAt Go.RowKit
set_option linter.unusedVariables false

def addF (x y z a b c : Int) : Option (Int × Int × Int) := sumF 1 x y z a b c
set_option maxHeartbeats 1000000 in
theorem specAdd_any (x y z a b c : Int) (w : World) :
    Calls Tryd.prog 56 #[.agg #[.int .i64 x, .int .i64 y, .int .i64 z], .agg #[.int .i64 a, .int .i64 b, .int .i64 c]] w (Gave (addF x y z a b c) w) := by
  unfold addF
  obtain ⟨o, ho⟩ : ∃ o, sumF 1 x y z a b c = o := ⟨_, rfl⟩
  rw [ho]
  have HO := Lib.hid ho
  clear ho
  go_enter Tryd.func56, Tryd.ntmps56
  go_wp2_with fail
  refine (specSum_any 1 x y z a b c _ (by simp)).mono ?_
  rw [HO.out]
  rintro e w1 ⟨rfl, hb⟩
  obtain ⟨q00, q01, q02⟩ := keep3 hb (b := w.heap.size) (x := .int .i64 x) (y := .int .i64 y) (z := .int .i64 z) (by go_simp)
  obtain ⟨q10, q11, q12⟩ := keep3 hb (b := w.heap.size + 1) (x := .int .i64 a) (y := .int .i64 b) (z := .int .i64 c) (by go_simp)
  obtain ⟨r0, r1, r2⟩ := keep3 hb (b := w.heap.size + 1 + 1) (x := .int .i64 0) (y := .int .i64 0) (z := .int .i64 0) (by go_simp)
  have kz : w.heap.size + 1 + 1 < w1.heap.size := World.block_lt_of_cell? _ _ r0
  obtain ⟨f0, f1, f2⟩ := keepf3 hb (b := w.heap.size + 1 + 1) (by go_simp) (by go_simp)
  have haw1 : Acc w w1 := by
    refine Acc.call ?_ hb
    (repeat' (first | assumption | exact Acc.refl _ | refine Acc.drew ?_ | refine Acc.alloc ?_ _ | refine Acc.setCell ?_ (by omega) _))
  clear hb
  rw [resV_eq]
  go_wp2_with fail
  refine bodyPost_ret (v := .tuple #[.agg #[.int .i64 (partsR o).1, .int .i64 (partsR o).2.1, .int .i64 (partsR o).2.2], .bool (okR o)]) (by simp [results, Tryd.results56, go_sem, r0, r1, r2]) rfl ⟨by rw [resV_eq], ?_⟩
  show Acc w _
  (repeat' (first | assumption | exact Acc.refl _ | refine Acc.drew ?_ | refine Acc.alloc ?_ _ | refine Acc.setCell ?_ (by omega) _))

def lessF (x y z a b c : Int) : Option (Int × Int × Int) := sumF (-1) x y z a b c
def timesF (x y z a b c : Int) : Option (Int × Int × Int) :=
  if (okF x y z && okF a b c) = true then lowF (x * a - y * b) (x * b + y * a) (z * c) else none
set_option maxHeartbeats 1000000 in
theorem specTimes_any (x y z a b c : Int) (w : World) :
    Calls Tryd.prog 70 #[.agg #[.int .i64 x, .int .i64 y, .int .i64 z], .agg #[.int .i64 a, .int .i64 b, .int .i64 c]] w (Gave (timesF x y z a b c) w) := by
  cases h1 : okF x y z with
  | false =>
    have e : timesF x y z a b c = none := by unfold timesF; rw [h1]; rfl
    rw [e]
    have H1 := Lib.hid h1
    clear h1 e
    go_enter Tryd.func70, Tryd.ntmps70
    go_wp2_with fail
    refine (specValid_any x y z _).mono ?_
    rw [H1.out]
    rintro e w1 ⟨rfl, hb⟩
    obtain ⟨q00, q01, q02⟩ := keep3 hb (b := w.heap.size) (x := .int .i64 x) (y := .int .i64 y) (z := .int .i64 z) (by go_simp)
    obtain ⟨q10, q11, q12⟩ := keep3 hb (b := w.heap.size + 1) (x := .int .i64 a) (y := .int .i64 b) (z := .int .i64 c) (by go_simp)
    obtain ⟨r0, r1, r2⟩ := keep3 hb (b := w.heap.size + 1 + 1) (x := .int .i64 0) (y := .int .i64 0) (z := .int .i64 0) (by go_simp)
    have kz : w.heap.size + 1 + 1 < w1.heap.size := World.block_lt_of_cell? _ _ r0
    obtain ⟨f0, f1, f2⟩ := keepf3 hb (b := w.heap.size + 1 + 1) (by go_simp) (by go_simp)
    have haw1 : Acc w w1 := by
      refine Acc.call ?_ hb
      (repeat' (first | assumption | exact Acc.refl _ | refine Acc.drew ?_ | refine Acc.alloc ?_ _ | refine Acc.setCell ?_ (by omega) _))
    clear hb
    go_wp2_with fail
    refine bodyPost_ret (v := .tuple #[.agg #[.int .i64 0, .int .i64 0, .int .i64 0], .bool false]) (by simp [results, Tryd.results70, go_sem, r0, r1, r2]) rfl ⟨rfl, ?_⟩
    show Acc w _
    (repeat' (first | assumption | exact Acc.refl _ | refine Acc.drew ?_ | refine Acc.alloc ?_ _ | refine Acc.setCell ?_ (by omega) _))
  | true =>
    obtain ⟨⟨x0, x1⟩, ⟨y0, y1⟩, ⟨z0, z1⟩⟩ := okF_bd h1
    have H1 := Lib.hid h1
    clear h1
    cases h2 : okF a b c with
    | false =>
      have e : timesF x y z a b c = none := by unfold timesF; rw [h2, Bool.and_false]; rfl
      rw [e]
      have H2 := Lib.hid h2
      clear h2 e
      go_enter Tryd.func70, Tryd.ntmps70
      go_wp2_with fail
      refine (specValid_any x y z _).mono ?_
      rw [H1.out]
      rintro e w1 ⟨rfl, hb⟩
      obtain ⟨q00, q01, q02⟩ := keep3 hb (b := w.heap.size) (x := .int .i64 x) (y := .int .i64 y) (z := .int .i64 z) (by go_simp)
      obtain ⟨q10, q11, q12⟩ := keep3 hb (b := w.heap.size + 1) (x := .int .i64 a) (y := .int .i64 b) (z := .int .i64 c) (by go_simp)
      obtain ⟨r0, r1, r2⟩ := keep3 hb (b := w.heap.size + 1 + 1) (x := .int .i64 0) (y := .int .i64 0) (z := .int .i64 0) (by go_simp)
      have kz : w.heap.size + 1 + 1 < w1.heap.size := World.block_lt_of_cell? _ _ r0
      obtain ⟨f0, f1, f2⟩ := keepf3 hb (b := w.heap.size + 1 + 1) (by go_simp) (by go_simp)
      have haw1 : Acc w w1 := by
        refine Acc.call ?_ hb
        (repeat' (first | assumption | exact Acc.refl _ | refine Acc.drew ?_ | refine Acc.alloc ?_ _ | refine Acc.setCell ?_ (by omega) _))
      clear hb
      go_wp2_with fail
      refine (specValid_any a b c _).mono ?_
      rw [H2.out]
      rintro e w2 ⟨rfl, hb⟩
      obtain ⟨q00, q01, q02⟩ := keep3 hb (b := w.heap.size) (x := .int .i64 x) (y := .int .i64 y) (z := .int .i64 z) (by go_simp)
      obtain ⟨q10, q11, q12⟩ := keep3 hb (b := w.heap.size + 1) (x := .int .i64 a) (y := .int .i64 b) (z := .int .i64 c) (by go_simp)
      obtain ⟨r0, r1, r2⟩ := keep3 hb (b := w.heap.size + 1 + 1) (x := .int .i64 0) (y := .int .i64 0) (z := .int .i64 0) (by go_simp)
      have kz : w.heap.size + 1 + 1 < w2.heap.size := World.block_lt_of_cell? _ _ r0
      obtain ⟨f0, f1, f2⟩ := keepf3 hb (b := w.heap.size + 1 + 1) (by go_simp) (by go_simp)
      have haw2 : Acc w w2 := by
        refine Acc.call ?_ hb
        (repeat' (first | assumption | exact Acc.refl _ | refine Acc.drew ?_ | refine Acc.alloc ?_ _ | refine Acc.setCell ?_ (by omega) _))
      clear hb
      go_wp2_with fail
      refine bodyPost_ret (v := .tuple #[.agg #[.int .i64 0, .int .i64 0, .int .i64 0], .bool false]) (by simp [results, Tryd.results70, go_sem, r0, r1, r2]) rfl ⟨rfl, ?_⟩
      show Acc w _
      (repeat' (first | assumption | exact Acc.refl _ | refine Acc.drew ?_ | refine Acc.alloc ?_ _ | refine Acc.setCell ?_ (by omega) _))
    | true =>
      obtain ⟨⟨a0, a1⟩, ⟨b0, b1⟩, ⟨c0, c1⟩⟩ := okF_bd h2
      have e : timesF x y z a b c = lowF (x * a - y * b) (x * b + y * a) (z * c) := by unfold timesF; rw [H1.out, h2]; rfl
      rw [e]
      have H2 := Lib.hid h2
      clear h2 e
      have m1 := mul_bd (a := x) (b := a) (m := 2000000000) (n := 2000000000) (by omega) (by omega) (by omega) (by omega)
      have m2 := mul_bd (a := y) (b := b) (m := 2000000000) (n := 2000000000) (by omega) (by omega) (by omega) (by omega)
      have m3 := mul_bd (a := x) (b := b) (m := 2000000000) (n := 2000000000) (by omega) (by omega) (by omega) (by omega)
      have m4 := mul_bd (a := y) (b := a) (m := 2000000000) (n := 2000000000) (by omega) (by omega) (by omega) (by omega)
      have m5 := mul_bd (a := z) (b := c) (m := 2000000000) (n := 2000000000) (by omega) (by omega) (by omega) (by omega)
      have m6 : 1 ≤ z * c := by have := Int.mul_le_mul (a := 1) (b := 1) (c := z) (d := c) (by omega) (by omega) (by omega) (by omega); omega
      have N1 : -4000000000000000000 ≤ x * a := by omega
      have N2 : x * a ≤ 4000000000000000000 := by omega
      have N3 : -4000000000000000000 ≤ y * b := by omega
      have N4 : y * b ≤ 4000000000000000000 := by omega
      have N5 : -4000000000000000000 ≤ x * b := by omega
      have N6 : x * b ≤ 4000000000000000000 := by omega
      have N7 : -4000000000000000000 ≤ y * a := by omega
      have N8 : y * a ≤ 4000000000000000000 := by omega
      have N9 : z * c ≤ 4000000000000000000 := by omega
      clear m1 m2 m3 m4 m5
      obtain ⟨o, ho⟩ : ∃ o, lowF (x * a - y * b) (x * b + y * a) (z * c) = o := ⟨_, rfl⟩
      rw [ho]
      have HO := Lib.hid ho
      clear ho
      go_enter Tryd.func70, Tryd.ntmps70
      go_wp2_with fail
      refine (specValid_any x y z _).mono ?_
      rw [H1.out]
      rintro e w1 ⟨rfl, hb⟩
      obtain ⟨q00, q01, q02⟩ := keep3 hb (b := w.heap.size) (x := .int .i64 x) (y := .int .i64 y) (z := .int .i64 z) (by go_simp)
      obtain ⟨q10, q11, q12⟩ := keep3 hb (b := w.heap.size + 1) (x := .int .i64 a) (y := .int .i64 b) (z := .int .i64 c) (by go_simp)
      obtain ⟨r0, r1, r2⟩ := keep3 hb (b := w.heap.size + 1 + 1) (x := .int .i64 0) (y := .int .i64 0) (z := .int .i64 0) (by go_simp)
      have kz : w.heap.size + 1 + 1 < w1.heap.size := World.block_lt_of_cell? _ _ r0
      obtain ⟨f0, f1, f2⟩ := keepf3 hb (b := w.heap.size + 1 + 1) (by go_simp) (by go_simp)
      have haw1 : Acc w w1 := by
        refine Acc.call ?_ hb
        (repeat' (first | assumption | exact Acc.refl _ | refine Acc.drew ?_ | refine Acc.alloc ?_ _ | refine Acc.setCell ?_ (by omega) _))
      clear hb
      go_wp2_with fail
      refine (specValid_any a b c _).mono ?_
      rw [H2.out]
      rintro e w2 ⟨rfl, hb⟩
      obtain ⟨q00, q01, q02⟩ := keep3 hb (b := w.heap.size) (x := .int .i64 x) (y := .int .i64 y) (z := .int .i64 z) (by go_simp)
      obtain ⟨q10, q11, q12⟩ := keep3 hb (b := w.heap.size + 1) (x := .int .i64 a) (y := .int .i64 b) (z := .int .i64 c) (by go_simp)
      obtain ⟨r0, r1, r2⟩ := keep3 hb (b := w.heap.size + 1 + 1) (x := .int .i64 0) (y := .int .i64 0) (z := .int .i64 0) (by go_simp)
      have kz : w.heap.size + 1 + 1 < w2.heap.size := World.block_lt_of_cell? _ _ r0
      obtain ⟨f0, f1, f2⟩ := keepf3 hb (b := w.heap.size + 1 + 1) (by go_simp) (by go_simp)
      have haw2 : Acc w w2 := by
        refine Acc.call ?_ hb
        (repeat' (first | assumption | exact Acc.refl _ | refine Acc.drew ?_ | refine Acc.alloc ?_ _ | refine Acc.setCell ?_ (by omega) _))
      clear hb
      go_wp2_with fail
      refine (specLow_any (x * a - y * b) (x * b + y * a) (z * c) _ (by omega) (by omega) (by omega)).mono ?_
      rw [HO.out]
      rintro e w3 ⟨rfl, hb⟩
      obtain ⟨q00, q01, q02⟩ := keep3 hb (b := w.heap.size) (x := .int .i64 x) (y := .int .i64 y) (z := .int .i64 z) (by go_simp)
      obtain ⟨q10, q11, q12⟩ := keep3 hb (b := w.heap.size + 1) (x := .int .i64 a) (y := .int .i64 b) (z := .int .i64 c) (by go_simp)
      obtain ⟨r0, r1, r2⟩ := keep3 hb (b := w.heap.size + 1 + 1) (x := .int .i64 0) (y := .int .i64 0) (z := .int .i64 0) (by go_simp)
      have kz : w.heap.size + 1 + 1 < w3.heap.size := World.block_lt_of_cell? _ _ r0
      obtain ⟨f0, f1, f2⟩ := keepf3 hb (b := w.heap.size + 1 + 1) (by go_simp) (by go_simp)
      have haw3 : Acc w w3 := by
        refine Acc.call ?_ hb
        (repeat' (first | assumption | exact Acc.refl _ | refine Acc.drew ?_ | refine Acc.alloc ?_ _ | refine Acc.setCell ?_ (by omega) _))
      clear hb
      rw [resV_eq]
      go_wp2_with fail
      refine bodyPost_ret (v := .tuple #[.agg #[.int .i64 (partsR o).1, .int .i64 (partsR o).2.1, .int .i64 (partsR o).2.2], .bool (okR o)]) (by simp [results, Tryd.results70, go_sem, r0, r1, r2]) rfl ⟨by rw [resV_eq], ?_⟩
      show Acc w _
      (repeat' (first | assumption | exact Acc.refl _ | refine Acc.drew ?_ | refine Acc.alloc ?_ _ | refine Acc.setCell ?_ (by omega) _))
end Go.Proofs.YtbihlkienhbapabDoor
