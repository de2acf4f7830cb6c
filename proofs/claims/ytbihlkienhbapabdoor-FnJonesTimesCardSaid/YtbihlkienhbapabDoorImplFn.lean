/-
  The program's exported functions of fractions.
-/
import Derived.Test.YtbihlkienhbapabDoorImplRest
import Derived.Test.YtbihlkienhbapabDoorImplMore
namespace Go.Proofs.YtbihlkienhbapabDoor
open Go.ChangeShapes Go.WideShapes Go.ChangeAt Go.RowKit
set_option linter.unusedVariables false

set_option maxHeartbeats 2000000 in
theorem implAdd_any (x y z a b c : Int) (hx : i64B x) (hy : i64B y) (hz : i64B z) (ha : i64B a) (hb : i64B b) (hc : i64B c) (w : World) (hl : Laid w) :
    Calls Tryd.prog 29 #[.agg #[.int .i64 x, .int .i64 y, .int .i64 z], .agg #[.int .i64 a, .int .i64 b, .int .i64 c]] w (Gave (sumF 1 x y z a b c) w) := by
  have HL := Lib.hid fun W (k : Acc w W) => hl.acc k
  have C := Lib.hid fun w => plus_any x y z a b c w hx hy hz ha hb hc
  clear hl
  cases ho : sumF 1 x y z a b c with
  | none =>
    have D := Lib.hid fun w => (C.out w).mono fun e w' h => (⟨h.2.1 ho, h.2.2⟩ : _ ∧ _)
    clear C ho
    go_enter Tryd.func29, Tryd.ntmps29
    go_wp2_with fail
    refine (D.out _).mono ?_
    rintro e w1 ⟨⟨s, rfl⟩, hb⟩
    obtain ⟨q00, q01, q02⟩ := keep3 hb (b := w.heap.size) (x := .int .i64 x) (y := .int .i64 y) (z := .int .i64 z) (by go_simp)
    have kb0 : w.heap.size < w1.heap.size := World.block_lt_of_cell? _ _ q00
    obtain ⟨q10, q11, q12⟩ := keep3 hb (b := w.heap.size + 1) (x := .int .i64 a) (y := .int .i64 b) (z := .int .i64 c) (by go_simp)
    have kb1 : w.heap.size + 1 < w1.heap.size := World.block_lt_of_cell? _ _ q10
    obtain ⟨r0, r1, r2⟩ := keep3 hb (b := w.heap.size + 1 + 1) (x := .int .i64 0) (y := .int .i64 0) (z := .int .i64 0) (by go_simp)
    have kz : w.heap.size + 1 + 1 < w1.heap.size := World.block_lt_of_cell? _ _ r0
    obtain ⟨f0, f1, f2⟩ := keepf3 hb (b := w.heap.size + 1 + 1) (by go_simp) (by go_simp)
    have haw1 : Acc w w1 := by
      refine Acc.call ?_ hb
      (repeat' (first | assumption | exact Acc.refl _ | refine Acc.drew ?_ | refine Acc.alloc ?_ _ | refine Acc.setCell ?_ (by omega) _))
    clear hb
    go_wp2_with fail
    refine (toldFrac_err _ _ _ s _ (HL.out _ (by repeat' (first | assumption | exact Acc.refl _ | refine Acc.drew ?_ | refine Acc.alloc ?_ _ | refine Acc.setCell ?_ (by omega) _)))).mono ?_
    rintro e w2 ⟨rfl, hb⟩
    obtain ⟨r0, r1, r2⟩ := keep3 hb (b := w.heap.size + 1 + 1) (x := .int .i64 0) (y := .int .i64 0) (z := .int .i64 0) (by go_simp)
    have kz : w.heap.size + 1 + 1 < w2.heap.size := World.block_lt_of_cell? _ _ r0
    obtain ⟨f0, f1, f2⟩ := keepf3 hb (b := w.heap.size + 1 + 1) (by go_simp) (by go_simp)
    have haw2 : Acc w w2 := by
      refine Acc.call ?_ hb
      (repeat' (first | assumption | exact Acc.refl _ | refine Acc.drew ?_ | refine Acc.alloc ?_ _ | refine Acc.setCell ?_ (by omega) _))
    clear hb
    simp only [resV]
    go_wp2_with fail
    refine bodyPost_ret (v := .tuple #[.agg #[.int .i64 0, .int .i64 0, .int .i64 0], .bool false]) (by simp [results, Tryd.results29, go_sem, r0, r1, r2]) rfl ⟨rfl, ?_⟩
    show Acc w _
    (repeat' (first | assumption | exact Acc.refl _ | refine Acc.drew ?_ | refine Acc.alloc ?_ _ | refine Acc.setCell ?_ (by omega) _))
  | some v =>
    obtain ⟨p, q, r⟩ := v
    have D := Lib.hid fun w => (C.out w).mono fun e w' h => (⟨h.1 _ _ _ ho, h.2.2⟩ : _ ∧ _)
    clear C ho
    go_enter Tryd.func29, Tryd.ntmps29
    go_wp2_with fail
    refine (D.out _).mono ?_
    rintro e w1 ⟨rfl, hb⟩
    obtain ⟨q00, q01, q02⟩ := keep3 hb (b := w.heap.size) (x := .int .i64 x) (y := .int .i64 y) (z := .int .i64 z) (by go_simp)
    have kb0 : w.heap.size < w1.heap.size := World.block_lt_of_cell? _ _ q00
    obtain ⟨q10, q11, q12⟩ := keep3 hb (b := w.heap.size + 1) (x := .int .i64 a) (y := .int .i64 b) (z := .int .i64 c) (by go_simp)
    have kb1 : w.heap.size + 1 < w1.heap.size := World.block_lt_of_cell? _ _ q10
    obtain ⟨r0, r1, r2⟩ := keep3 hb (b := w.heap.size + 1 + 1) (x := .int .i64 0) (y := .int .i64 0) (z := .int .i64 0) (by go_simp)
    have kz : w.heap.size + 1 + 1 < w1.heap.size := World.block_lt_of_cell? _ _ r0
    obtain ⟨f0, f1, f2⟩ := keepf3 hb (b := w.heap.size + 1 + 1) (by go_simp) (by go_simp)
    have haw1 : Acc w w1 := by
      refine Acc.call ?_ hb
      (repeat' (first | assumption | exact Acc.refl _ | refine Acc.drew ?_ | refine Acc.alloc ?_ _ | refine Acc.setCell ?_ (by omega) _))
    clear hb
    go_wp2_with fail
    refine (toldFrac_ok p q r _).mono ?_
    rintro e w2 ⟨rfl, hb⟩
    obtain ⟨r0, r1, r2⟩ := keep3 hb (b := w.heap.size + 1 + 1) (x := .int .i64 0) (y := .int .i64 0) (z := .int .i64 0) (by go_simp)
    have kz : w.heap.size + 1 + 1 < w2.heap.size := World.block_lt_of_cell? _ _ r0
    obtain ⟨f0, f1, f2⟩ := keepf3 hb (b := w.heap.size + 1 + 1) (by go_simp) (by go_simp)
    have haw2 : Acc w w2 := by
      refine Acc.call ?_ hb
      (repeat' (first | assumption | exact Acc.refl _ | refine Acc.drew ?_ | refine Acc.alloc ?_ _ | refine Acc.setCell ?_ (by omega) _))
    clear hb
    simp only [resV]
    go_wp2_with fail
    refine bodyPost_ret (v := .tuple #[.agg #[.int .i64 p, .int .i64 q, .int .i64 r], .bool true]) (by simp [results, Tryd.results29, go_sem, r0, r1, r2]) rfl ⟨rfl, ?_⟩
    show Acc w _
    (repeat' (first | assumption | exact Acc.refl _ | refine Acc.drew ?_ | refine Acc.alloc ?_ _ | refine Acc.setCell ?_ (by omega) _))

set_option maxHeartbeats 2000000 in
theorem implTimes_any (x y z a b c : Int) (hx : i64B x) (hy : i64B y) (hz : i64B z) (ha : i64B a) (hb : i64B b) (hc : i64B c) (w : World) (hl : Laid w) :
    Calls Tryd.prog 14 #[.agg #[.int .i64 x, .int .i64 y, .int .i64 z], .agg #[.int .i64 a, .int .i64 b, .int .i64 c]] w (Gave (timesF x y z a b c) w) := by
  have HL := Lib.hid fun W (k : Acc w W) => hl.acc k
  have C := Lib.hid fun w => mtimes_any x y z a b c w hx hy hz ha hb hc
  clear hl
  cases ho : timesF x y z a b c with
  | none =>
    have D := Lib.hid fun w => (C.out w).mono fun e w' h => (⟨h.2.1 ho, h.2.2⟩ : _ ∧ _)
    clear C ho
    go_enter Tryd.func14, Tryd.ntmps14
    go_wp2_with fail
    refine (D.out _).mono ?_
    rintro e w1 ⟨⟨s, rfl⟩, hb⟩
    obtain ⟨q00, q01, q02⟩ := keep3 hb (b := w.heap.size) (x := .int .i64 x) (y := .int .i64 y) (z := .int .i64 z) (by go_simp)
    have kb0 : w.heap.size < w1.heap.size := World.block_lt_of_cell? _ _ q00
    obtain ⟨q10, q11, q12⟩ := keep3 hb (b := w.heap.size + 1) (x := .int .i64 a) (y := .int .i64 b) (z := .int .i64 c) (by go_simp)
    have kb1 : w.heap.size + 1 < w1.heap.size := World.block_lt_of_cell? _ _ q10
    obtain ⟨r0, r1, r2⟩ := keep3 hb (b := w.heap.size + 1 + 1) (x := .int .i64 0) (y := .int .i64 0) (z := .int .i64 0) (by go_simp)
    have kz : w.heap.size + 1 + 1 < w1.heap.size := World.block_lt_of_cell? _ _ r0
    obtain ⟨f0, f1, f2⟩ := keepf3 hb (b := w.heap.size + 1 + 1) (by go_simp) (by go_simp)
    have haw1 : Acc w w1 := by
      refine Acc.call ?_ hb
      (repeat' (first | assumption | exact Acc.refl _ | refine Acc.drew ?_ | refine Acc.alloc ?_ _ | refine Acc.setCell ?_ (by omega) _))
    clear hb
    go_wp2_with fail
    refine (toldFrac_err _ _ _ s _ (HL.out _ (by repeat' (first | assumption | exact Acc.refl _ | refine Acc.drew ?_ | refine Acc.alloc ?_ _ | refine Acc.setCell ?_ (by omega) _)))).mono ?_
    rintro e w2 ⟨rfl, hb⟩
    obtain ⟨r0, r1, r2⟩ := keep3 hb (b := w.heap.size + 1 + 1) (x := .int .i64 0) (y := .int .i64 0) (z := .int .i64 0) (by go_simp)
    have kz : w.heap.size + 1 + 1 < w2.heap.size := World.block_lt_of_cell? _ _ r0
    obtain ⟨f0, f1, f2⟩ := keepf3 hb (b := w.heap.size + 1 + 1) (by go_simp) (by go_simp)
    have haw2 : Acc w w2 := by
      refine Acc.call ?_ hb
      (repeat' (first | assumption | exact Acc.refl _ | refine Acc.drew ?_ | refine Acc.alloc ?_ _ | refine Acc.setCell ?_ (by omega) _))
    clear hb
    simp only [resV]
    go_wp2_with fail
    refine bodyPost_ret (v := .tuple #[.agg #[.int .i64 0, .int .i64 0, .int .i64 0], .bool false]) (by simp [results, Tryd.results14, go_sem, r0, r1, r2]) rfl ⟨rfl, ?_⟩
    show Acc w _
    (repeat' (first | assumption | exact Acc.refl _ | refine Acc.drew ?_ | refine Acc.alloc ?_ _ | refine Acc.setCell ?_ (by omega) _))
  | some v =>
    obtain ⟨p, q, r⟩ := v
    have D := Lib.hid fun w => (C.out w).mono fun e w' h => (⟨h.1 _ _ _ ho, h.2.2⟩ : _ ∧ _)
    clear C ho
    go_enter Tryd.func14, Tryd.ntmps14
    go_wp2_with fail
    refine (D.out _).mono ?_
    rintro e w1 ⟨rfl, hb⟩
    obtain ⟨q00, q01, q02⟩ := keep3 hb (b := w.heap.size) (x := .int .i64 x) (y := .int .i64 y) (z := .int .i64 z) (by go_simp)
    have kb0 : w.heap.size < w1.heap.size := World.block_lt_of_cell? _ _ q00
    obtain ⟨q10, q11, q12⟩ := keep3 hb (b := w.heap.size + 1) (x := .int .i64 a) (y := .int .i64 b) (z := .int .i64 c) (by go_simp)
    have kb1 : w.heap.size + 1 < w1.heap.size := World.block_lt_of_cell? _ _ q10
    obtain ⟨r0, r1, r2⟩ := keep3 hb (b := w.heap.size + 1 + 1) (x := .int .i64 0) (y := .int .i64 0) (z := .int .i64 0) (by go_simp)
    have kz : w.heap.size + 1 + 1 < w1.heap.size := World.block_lt_of_cell? _ _ r0
    obtain ⟨f0, f1, f2⟩ := keepf3 hb (b := w.heap.size + 1 + 1) (by go_simp) (by go_simp)
    have haw1 : Acc w w1 := by
      refine Acc.call ?_ hb
      (repeat' (first | assumption | exact Acc.refl _ | refine Acc.drew ?_ | refine Acc.alloc ?_ _ | refine Acc.setCell ?_ (by omega) _))
    clear hb
    go_wp2_with fail
    refine (toldFrac_ok p q r _).mono ?_
    rintro e w2 ⟨rfl, hb⟩
    obtain ⟨r0, r1, r2⟩ := keep3 hb (b := w.heap.size + 1 + 1) (x := .int .i64 0) (y := .int .i64 0) (z := .int .i64 0) (by go_simp)
    have kz : w.heap.size + 1 + 1 < w2.heap.size := World.block_lt_of_cell? _ _ r0
    obtain ⟨f0, f1, f2⟩ := keepf3 hb (b := w.heap.size + 1 + 1) (by go_simp) (by go_simp)
    have haw2 : Acc w w2 := by
      refine Acc.call ?_ hb
      (repeat' (first | assumption | exact Acc.refl _ | refine Acc.drew ?_ | refine Acc.alloc ?_ _ | refine Acc.setCell ?_ (by omega) _))
    clear hb
    simp only [resV]
    go_wp2_with fail
    refine bodyPost_ret (v := .tuple #[.agg #[.int .i64 p, .int .i64 q, .int .i64 r], .bool true]) (by simp [results, Tryd.results14, go_sem, r0, r1, r2]) rfl ⟨rfl, ?_⟩
    show Acc w _
    (repeat' (first | assumption | exact Acc.refl _ | refine Acc.drew ?_ | refine Acc.alloc ?_ _ | refine Acc.setCell ?_ (by omega) _))

set_option maxHeartbeats 2000000 in
theorem implMirror_any (x y z : Int) (hx : i64B x) (hy : i64B y) (hz : i64B z) (w : World) (hl : Laid w) :
    Calls Tryd.prog 22 #[.agg #[.int .i64 x, .int .i64 y, .int .i64 z]] w (Gave (mirrorF x y z) w) := by
  have HL := Lib.hid fun W (k : Acc w W) => hl.acc k
  have C := Lib.hid fun w => mirror_any x y z w hx hy hz
  clear hl
  cases ho : mirrorF x y z with
  | none =>
    have D := Lib.hid fun w => (C.out w).mono fun e w' h => (⟨h.2.1 ho, h.2.2⟩ : _ ∧ _)
    clear C ho
    go_enter Tryd.func22, Tryd.ntmps22
    go_wp2_with fail
    refine (D.out _).mono ?_
    rintro e w1 ⟨⟨s, rfl⟩, hb⟩
    obtain ⟨q00, q01, q02⟩ := keep3 hb (b := w.heap.size) (x := .int .i64 x) (y := .int .i64 y) (z := .int .i64 z) (by go_simp)
    have kb0 : w.heap.size < w1.heap.size := World.block_lt_of_cell? _ _ q00
    obtain ⟨r0, r1, r2⟩ := keep3 hb (b := w.heap.size + 1) (x := .int .i64 0) (y := .int .i64 0) (z := .int .i64 0) (by go_simp)
    have kz : w.heap.size + 1 < w1.heap.size := World.block_lt_of_cell? _ _ r0
    obtain ⟨f0, f1, f2⟩ := keepf3 hb (b := w.heap.size + 1) (by go_simp) (by go_simp)
    have haw1 : Acc w w1 := by
      refine Acc.call ?_ hb
      (repeat' (first | assumption | exact Acc.refl _ | refine Acc.drew ?_ | refine Acc.alloc ?_ _ | refine Acc.setCell ?_ (by omega) _))
    clear hb
    go_wp2_with fail
    refine (toldFrac_err _ _ _ s _ (HL.out _ (by repeat' (first | assumption | exact Acc.refl _ | refine Acc.drew ?_ | refine Acc.alloc ?_ _ | refine Acc.setCell ?_ (by omega) _)))).mono ?_
    rintro e w2 ⟨rfl, hb⟩
    obtain ⟨r0, r1, r2⟩ := keep3 hb (b := w.heap.size + 1) (x := .int .i64 0) (y := .int .i64 0) (z := .int .i64 0) (by go_simp)
    have kz : w.heap.size + 1 < w2.heap.size := World.block_lt_of_cell? _ _ r0
    obtain ⟨f0, f1, f2⟩ := keepf3 hb (b := w.heap.size + 1) (by go_simp) (by go_simp)
    have haw2 : Acc w w2 := by
      refine Acc.call ?_ hb
      (repeat' (first | assumption | exact Acc.refl _ | refine Acc.drew ?_ | refine Acc.alloc ?_ _ | refine Acc.setCell ?_ (by omega) _))
    clear hb
    simp only [resV]
    go_wp2_with fail
    refine bodyPost_ret (v := .tuple #[.agg #[.int .i64 0, .int .i64 0, .int .i64 0], .bool false]) (by simp [results, Tryd.results22, go_sem, r0, r1, r2]) rfl ⟨rfl, ?_⟩
    show Acc w _
    (repeat' (first | assumption | exact Acc.refl _ | refine Acc.drew ?_ | refine Acc.alloc ?_ _ | refine Acc.setCell ?_ (by omega) _))
  | some v =>
    obtain ⟨p, q, r⟩ := v
    have D := Lib.hid fun w => (C.out w).mono fun e w' h => (⟨h.1 _ _ _ ho, h.2.2⟩ : _ ∧ _)
    clear C ho
    go_enter Tryd.func22, Tryd.ntmps22
    go_wp2_with fail
    refine (D.out _).mono ?_
    rintro e w1 ⟨rfl, hb⟩
    obtain ⟨q00, q01, q02⟩ := keep3 hb (b := w.heap.size) (x := .int .i64 x) (y := .int .i64 y) (z := .int .i64 z) (by go_simp)
    have kb0 : w.heap.size < w1.heap.size := World.block_lt_of_cell? _ _ q00
    obtain ⟨r0, r1, r2⟩ := keep3 hb (b := w.heap.size + 1) (x := .int .i64 0) (y := .int .i64 0) (z := .int .i64 0) (by go_simp)
    have kz : w.heap.size + 1 < w1.heap.size := World.block_lt_of_cell? _ _ r0
    obtain ⟨f0, f1, f2⟩ := keepf3 hb (b := w.heap.size + 1) (by go_simp) (by go_simp)
    have haw1 : Acc w w1 := by
      refine Acc.call ?_ hb
      (repeat' (first | assumption | exact Acc.refl _ | refine Acc.drew ?_ | refine Acc.alloc ?_ _ | refine Acc.setCell ?_ (by omega) _))
    clear hb
    go_wp2_with fail
    refine (toldFrac_ok p q r _).mono ?_
    rintro e w2 ⟨rfl, hb⟩
    obtain ⟨r0, r1, r2⟩ := keep3 hb (b := w.heap.size + 1) (x := .int .i64 0) (y := .int .i64 0) (z := .int .i64 0) (by go_simp)
    have kz : w.heap.size + 1 < w2.heap.size := World.block_lt_of_cell? _ _ r0
    obtain ⟨f0, f1, f2⟩ := keepf3 hb (b := w.heap.size + 1) (by go_simp) (by go_simp)
    have haw2 : Acc w w2 := by
      refine Acc.call ?_ hb
      (repeat' (first | assumption | exact Acc.refl _ | refine Acc.drew ?_ | refine Acc.alloc ?_ _ | refine Acc.setCell ?_ (by omega) _))
    clear hb
    simp only [resV]
    go_wp2_with fail
    refine bodyPost_ret (v := .tuple #[.agg #[.int .i64 p, .int .i64 q, .int .i64 r], .bool true]) (by simp [results, Tryd.results22, go_sem, r0, r1, r2]) rfl ⟨rfl, ?_⟩
    show Acc w _
    (repeat' (first | assumption | exact Acc.refl _ | refine Acc.drew ?_ | refine Acc.alloc ?_ _ | refine Acc.setCell ?_ (by omega) _))

set_option maxHeartbeats 2000000 in
theorem implPower_any (x y z : Int) (hx : i64B x) (hy : i64B y) (hz : i64B z) (w : World) (hl : Laid w) :
    Calls Tryd.prog 23 #[.agg #[.int .i64 x, .int .i64 y, .int .i64 z]] w (Gave (powerF x y z) w) := by
  have HL := Lib.hid fun W (k : Acc w W) => hl.acc k
  have C := Lib.hid fun w => mpower_any x y z w hx hy hz
  clear hl
  cases ho : powerF x y z with
  | none =>
    have D := Lib.hid fun w => (C.out w).mono fun e w' h => (⟨h.2.1 ho, h.2.2⟩ : _ ∧ _)
    clear C ho
    go_enter Tryd.func23, Tryd.ntmps23
    go_wp2_with fail
    refine (D.out _).mono ?_
    rintro e w1 ⟨⟨s, rfl⟩, hb⟩
    obtain ⟨q00, q01, q02⟩ := keep3 hb (b := w.heap.size) (x := .int .i64 x) (y := .int .i64 y) (z := .int .i64 z) (by go_simp)
    have kb0 : w.heap.size < w1.heap.size := World.block_lt_of_cell? _ _ q00
    obtain ⟨r0, r1, r2⟩ := keep3 hb (b := w.heap.size + 1) (x := .int .i64 0) (y := .int .i64 0) (z := .int .i64 0) (by go_simp)
    have kz : w.heap.size + 1 < w1.heap.size := World.block_lt_of_cell? _ _ r0
    obtain ⟨f0, f1, f2⟩ := keepf3 hb (b := w.heap.size + 1) (by go_simp) (by go_simp)
    have haw1 : Acc w w1 := by
      refine Acc.call ?_ hb
      (repeat' (first | assumption | exact Acc.refl _ | refine Acc.drew ?_ | refine Acc.alloc ?_ _ | refine Acc.setCell ?_ (by omega) _))
    clear hb
    go_wp2_with fail
    refine (toldFrac_err _ _ _ s _ (HL.out _ (by repeat' (first | assumption | exact Acc.refl _ | refine Acc.drew ?_ | refine Acc.alloc ?_ _ | refine Acc.setCell ?_ (by omega) _)))).mono ?_
    rintro e w2 ⟨rfl, hb⟩
    obtain ⟨r0, r1, r2⟩ := keep3 hb (b := w.heap.size + 1) (x := .int .i64 0) (y := .int .i64 0) (z := .int .i64 0) (by go_simp)
    have kz : w.heap.size + 1 < w2.heap.size := World.block_lt_of_cell? _ _ r0
    obtain ⟨f0, f1, f2⟩ := keepf3 hb (b := w.heap.size + 1) (by go_simp) (by go_simp)
    have haw2 : Acc w w2 := by
      refine Acc.call ?_ hb
      (repeat' (first | assumption | exact Acc.refl _ | refine Acc.drew ?_ | refine Acc.alloc ?_ _ | refine Acc.setCell ?_ (by omega) _))
    clear hb
    simp only [resV]
    go_wp2_with fail
    refine bodyPost_ret (v := .tuple #[.agg #[.int .i64 0, .int .i64 0, .int .i64 0], .bool false]) (by simp [results, Tryd.results23, go_sem, r0, r1, r2]) rfl ⟨rfl, ?_⟩
    show Acc w _
    (repeat' (first | assumption | exact Acc.refl _ | refine Acc.drew ?_ | refine Acc.alloc ?_ _ | refine Acc.setCell ?_ (by omega) _))
  | some v =>
    obtain ⟨p, q, r⟩ := v
    have D := Lib.hid fun w => (C.out w).mono fun e w' h => (⟨h.1 _ _ _ ho, h.2.2⟩ : _ ∧ _)
    clear C ho
    go_enter Tryd.func23, Tryd.ntmps23
    go_wp2_with fail
    refine (D.out _).mono ?_
    rintro e w1 ⟨rfl, hb⟩
    obtain ⟨q00, q01, q02⟩ := keep3 hb (b := w.heap.size) (x := .int .i64 x) (y := .int .i64 y) (z := .int .i64 z) (by go_simp)
    have kb0 : w.heap.size < w1.heap.size := World.block_lt_of_cell? _ _ q00
    obtain ⟨r0, r1, r2⟩ := keep3 hb (b := w.heap.size + 1) (x := .int .i64 0) (y := .int .i64 0) (z := .int .i64 0) (by go_simp)
    have kz : w.heap.size + 1 < w1.heap.size := World.block_lt_of_cell? _ _ r0
    obtain ⟨f0, f1, f2⟩ := keepf3 hb (b := w.heap.size + 1) (by go_simp) (by go_simp)
    have haw1 : Acc w w1 := by
      refine Acc.call ?_ hb
      (repeat' (first | assumption | exact Acc.refl _ | refine Acc.drew ?_ | refine Acc.alloc ?_ _ | refine Acc.setCell ?_ (by omega) _))
    clear hb
    go_wp2_with fail
    refine (toldFrac_ok p q r _).mono ?_
    rintro e w2 ⟨rfl, hb⟩
    obtain ⟨r0, r1, r2⟩ := keep3 hb (b := w.heap.size + 1) (x := .int .i64 0) (y := .int .i64 0) (z := .int .i64 0) (by go_simp)
    have kz : w.heap.size + 1 < w2.heap.size := World.block_lt_of_cell? _ _ r0
    obtain ⟨f0, f1, f2⟩ := keepf3 hb (b := w.heap.size + 1) (by go_simp) (by go_simp)
    have haw2 : Acc w w2 := by
      refine Acc.call ?_ hb
      (repeat' (first | assumption | exact Acc.refl _ | refine Acc.drew ?_ | refine Acc.alloc ?_ _ | refine Acc.setCell ?_ (by omega) _))
    clear hb
    simp only [resV]
    go_wp2_with fail
    refine bodyPost_ret (v := .tuple #[.agg #[.int .i64 p, .int .i64 q, .int .i64 r], .bool true]) (by simp [results, Tryd.results23, go_sem, r0, r1, r2]) rfl ⟨rfl, ?_⟩
    show Acc w _
    (repeat' (first | assumption | exact Acc.refl _ | refine Acc.drew ?_ | refine Acc.alloc ?_ _ | refine Acc.setCell ?_ (by omega) _))

end Go.Proofs.YtbihlkienhbapabDoor
