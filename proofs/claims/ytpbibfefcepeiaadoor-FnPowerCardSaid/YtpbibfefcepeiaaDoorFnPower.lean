/-
  The law of powers.
-/
import Derived.Test.YtpbibfefcepeiaaDoorDrawOne
import Derived.Test.YtpbibfefcepeiaaDoorFracMath
import Derived.Test.YtpbibfefcepeiaaDoorGave
import Derived.Test.YtpbibfefcepeiaaDoorImplFn
namespace Go.Proofs.YtpbibfefcepeiaaDoor
open Go.ChangeShapes Go.WideShapes Go.ChangeAt Go.RowKit
set_option linter.unusedVariables false

set_option maxHeartbeats 4000000 in
theorem fnPower_law (w : World) (hl : Laid w) (s : Option Addr) (len cap : Nat) (h : Code8 w s len cap) :
    Calls Tryd.prog 10 #[.slice s len cap] w (Fine w) := by
  have hm := h.2.1
  have hl' := h.1
  unfold maxLen at hm
  have HL := Lib.hid fun W (k : Acc w W) => hl.acc k
  clear hl
  by_cases hlen : 1048576 < len
  · clear h
    have hlen' : (1048576 : Int) < (len : Int) := by omega
    go_enter Tryd.func10, Tryd.ntmps10
    go_wp2_with fail
    go_ret
    exact ⟨rfl, Below.refl _ _⟩
  have hlen' : ¬ (1048576 : Int) < (len : Int) := by omega
  go_enter Tryd.func10, Tryd.ntmps10
  go_wp2_with fail
  refine (drawFracPower_any s len cap w h).mono ?_
  rintro e W0 ⟨x, y, z, rfl, hx, hy, hz, hb⟩
  have kaW0 : Acc w W0 := hb
  clear hb h
  go_wp2_with fail
  cases ho : powerF x y z with
  | none =>
    have HO := Lib.hid ho
    clear ho
    refine (gave_none HO.out (implPower_any x y z hx hy hz _ (HL.out _ (by repeat' (first | assumption | exact Acc.refl _ | refine Acc.drew ?_ | refine Acc.alloc ?_ _ | refine Acc.setCell ?_ (by omega) _))))).mono ?_
    rintro e W1 ⟨rfl, hb⟩
    obtain ⟨c00, c01, c02⟩ := keep3 hb (b := W0.heap.size) (x := .int .i64 x) (y := .int .i64 y) (z := .int .i64 z) (by go_simp)
    have cl0 : W0.heap.size < W1.heap.size := World.block_lt_of_cell? _ _ c00
    have kaW1 : Acc w W1 := by
      refine Acc.call ?_ hb
      (repeat' (first | assumption | exact Acc.refl _ | refine Acc.drew ?_ | refine Acc.drewN ?_ _ | refine Acc.alloc ?_ _ | refine Acc.setCell ?_ (by omega) _))
    clear hb
    go_wp2_with fail
    refine (gave_none HO.out (specPower_any x y z _)).mono ?_
    rintro e W2 ⟨rfl, hb⟩
    obtain ⟨c00, c01, c02⟩ := keep3 hb (b := W0.heap.size) (x := .int .i64 x) (y := .int .i64 y) (z := .int .i64 z) (by go_simp)
    have cl0 : W0.heap.size < W2.heap.size := World.block_lt_of_cell? _ _ c00
    obtain ⟨c10, c11, c12⟩ := keep3 hb (b := W1.heap.size) (x := .int .i64 0) (y := .int .i64 0) (z := .int .i64 0) (by go_simp)
    have cl1 : W1.heap.size < W2.heap.size := World.block_lt_of_cell? _ _ c10
    have kaW2 : Acc w W2 := by
      refine Acc.call ?_ hb
      (repeat' (first | assumption | exact Acc.refl _ | refine Acc.drew ?_ | refine Acc.drewN ?_ _ | refine Acc.alloc ?_ _ | refine Acc.setCell ?_ (by omega) _))
    clear hb
    go_wp2_with fail
    go_ret
    refine ⟨rfl, ?_⟩
    show Acc w _
    (repeat' (first | assumption | exact Acc.refl _ | refine Acc.drew ?_ | refine Acc.drewN ?_ _ | refine Acc.alloc ?_ _ | refine Acc.setCell ?_ (by omega) _))
  | some v =>
    obtain ⟨p, q, r⟩ := v
    have ps := power_some ho
    obtain ⟨hp0, hpz⟩ := power_sign ho
    obtain ⟨h1, h2, -, rfl⟩ := ps
    obtain ⟨⟨x0, x1⟩, ⟨y0, y1⟩, -⟩ := okF_bd h1
    have HO := Lib.hid ho
    have HM := Lib.hid (show mirrorF x y z = some (x, -y, z) by unfold mirrorF; rw [h1]; rfl)
    have HP := Lib.hid (power_mirror.trans ho)
    have hy' : i64B (-y) := by unfold i64B; omega
    clear ho h1 h2
    by_cases hz0 : p = 0
    · obtain ⟨rfl, rfl⟩ := hpz.1 hz0
      subst hz0
      clear hpz
      refine (gave_some HO.out (implPower_any 0 0 z (by unfold i64B; omega) (by unfold i64B; omega) hz _ (HL.out _ (by repeat' (first | assumption | exact Acc.refl _ | refine Acc.drew ?_ | refine Acc.alloc ?_ _ | refine Acc.setCell ?_ (by omega) _))))).mono ?_
      rintro e W1 ⟨rfl, hb⟩
      obtain ⟨c00, c01, c02⟩ := keep3 hb (b := W0.heap.size) (x := .int .i64 0) (y := .int .i64 0) (z := .int .i64 z) (by go_simp)
      have cl0 : W0.heap.size < W1.heap.size := World.block_lt_of_cell? _ _ c00
      have kaW1 : Acc w W1 := by
        refine Acc.call ?_ hb
        (repeat' (first | assumption | exact Acc.refl _ | refine Acc.drew ?_ | refine Acc.drewN ?_ _ | refine Acc.alloc ?_ _ | refine Acc.setCell ?_ (by omega) _))
      clear hb
      go_wp2_with fail
      refine (gave_some HO.out (specPower_any 0 0 z _)).mono ?_
      rintro e W2 ⟨rfl, hb⟩
      obtain ⟨c00, c01, c02⟩ := keep3 hb (b := W0.heap.size) (x := .int .i64 0) (y := .int .i64 0) (z := .int .i64 z) (by go_simp)
      have cl0 : W0.heap.size < W2.heap.size := World.block_lt_of_cell? _ _ c00
      obtain ⟨c10, c11, c12⟩ := keep3 hb (b := W1.heap.size) (x := .int .i64 0) (y := .int .i64 0) (z := .int .i64 r) (by go_simp)
      have cl1 : W1.heap.size < W2.heap.size := World.block_lt_of_cell? _ _ c10
      have kaW2 : Acc w W2 := by
        refine Acc.call ?_ hb
        (repeat' (first | assumption | exact Acc.refl _ | refine Acc.drew ?_ | refine Acc.drewN ?_ _ | refine Acc.alloc ?_ _ | refine Acc.setCell ?_ (by omega) _))
      clear hb
      go_wp2_with fail
      refine (gave_some HM.out (implMirror_any 0 0 z (by unfold i64B; omega) (by unfold i64B; omega) hz _ (HL.out _ (by repeat' (first | assumption | exact Acc.refl _ | refine Acc.drew ?_ | refine Acc.alloc ?_ _ | refine Acc.setCell ?_ (by omega) _))))).mono ?_
      rintro e W3 ⟨rfl, hb⟩
      obtain ⟨c00, c01, c02⟩ := keep3 hb (b := W0.heap.size) (x := .int .i64 0) (y := .int .i64 0) (z := .int .i64 z) (by go_simp)
      have cl0 : W0.heap.size < W3.heap.size := World.block_lt_of_cell? _ _ c00
      obtain ⟨c10, c11, c12⟩ := keep3 hb (b := W1.heap.size) (x := .int .i64 0) (y := .int .i64 0) (z := .int .i64 r) (by go_simp)
      have cl1 : W1.heap.size < W3.heap.size := World.block_lt_of_cell? _ _ c10
      obtain ⟨c20, c21, c22⟩ := keep3 hb (b := W2.heap.size) (x := .int .i64 0) (y := .int .i64 0) (z := .int .i64 r) (by go_simp)
      have cl2 : W2.heap.size < W3.heap.size := World.block_lt_of_cell? _ _ c20
      have kaW3 : Acc w W3 := by
        refine Acc.call ?_ hb
        (repeat' (first | assumption | exact Acc.refl _ | refine Acc.drew ?_ | refine Acc.drewN ?_ _ | refine Acc.alloc ?_ _ | refine Acc.setCell ?_ (by omega) _))
      clear hb
      go_wp2_with fail
      refine (gave_some HP.out (implPower_any 0 (-0) z (by unfold i64B; omega) (by unfold i64B; omega) hz _ (HL.out _ (by repeat' (first | assumption | exact Acc.refl _ | refine Acc.drew ?_ | refine Acc.alloc ?_ _ | refine Acc.setCell ?_ (by omega) _))))).mono ?_
      rintro e W4 ⟨rfl, hb⟩
      obtain ⟨c00, c01, c02⟩ := keep3 hb (b := W0.heap.size) (x := .int .i64 0) (y := .int .i64 0) (z := .int .i64 z) (by go_simp)
      have cl0 : W0.heap.size < W4.heap.size := World.block_lt_of_cell? _ _ c00
      obtain ⟨c10, c11, c12⟩ := keep3 hb (b := W1.heap.size) (x := .int .i64 0) (y := .int .i64 0) (z := .int .i64 r) (by go_simp)
      have cl1 : W1.heap.size < W4.heap.size := World.block_lt_of_cell? _ _ c10
      obtain ⟨c20, c21, c22⟩ := keep3 hb (b := W2.heap.size) (x := .int .i64 0) (y := .int .i64 0) (z := .int .i64 r) (by go_simp)
      have cl2 : W2.heap.size < W4.heap.size := World.block_lt_of_cell? _ _ c20
      obtain ⟨c30, c31, c32⟩ := keep3 hb (b := W3.heap.size) (x := .int .i64 0) (y := .int .i64 (-0)) (z := .int .i64 z) (by go_simp)
      have cl3 : W3.heap.size < W4.heap.size := World.block_lt_of_cell? _ _ c30
      have kaW4 : Acc w W4 := by
        refine Acc.call ?_ hb
        (repeat' (first | assumption | exact Acc.refl _ | refine Acc.drew ?_ | refine Acc.drewN ?_ _ | refine Acc.alloc ?_ _ | refine Acc.setCell ?_ (by omega) _))
      clear hb
      go_wp2_with fail
      go_ret
      refine ⟨rfl, ?_⟩
      show Acc w _
      (repeat' (first | assumption | exact Acc.refl _ | refine Acc.drew ?_ | refine Acc.drewN ?_ _ | refine Acc.alloc ?_ _ | refine Acc.setCell ?_ (by omega) _))
    · have hne : ¬ (x = 0 ∧ y = 0) := fun h => hz0 (hpz.2 h)
      have hz1 : (p == 0) = false := by simpa using hz0
      clear hpz
      by_cases hx0 : x = 0
      · have hy0 : (y == 0) = false := by simp; exact fun h => hne ⟨hx0, h⟩
        subst hx0
        clear hne
        refine (gave_some HO.out (implPower_any 0 y z hx hy hz _ (HL.out _ (by repeat' (first | assumption | exact Acc.refl _ | refine Acc.drew ?_ | refine Acc.alloc ?_ _ | refine Acc.setCell ?_ (by omega) _))))).mono ?_
        rintro e W1 ⟨rfl, hb⟩
        obtain ⟨c00, c01, c02⟩ := keep3 hb (b := W0.heap.size) (x := .int .i64 0) (y := .int .i64 y) (z := .int .i64 z) (by go_simp)
        have cl0 : W0.heap.size < W1.heap.size := World.block_lt_of_cell? _ _ c00
        have kaW1 : Acc w W1 := by
          refine Acc.call ?_ hb
          (repeat' (first | assumption | exact Acc.refl _ | refine Acc.drew ?_ | refine Acc.drewN ?_ _ | refine Acc.alloc ?_ _ | refine Acc.setCell ?_ (by omega) _))
        clear hb
        go_wp2_with fail
        refine (gave_some HO.out (specPower_any 0 y z _)).mono ?_
        rintro e W2 ⟨rfl, hb⟩
        obtain ⟨c00, c01, c02⟩ := keep3 hb (b := W0.heap.size) (x := .int .i64 0) (y := .int .i64 y) (z := .int .i64 z) (by go_simp)
        have cl0 : W0.heap.size < W2.heap.size := World.block_lt_of_cell? _ _ c00
        obtain ⟨c10, c11, c12⟩ := keep3 hb (b := W1.heap.size) (x := .int .i64 p) (y := .int .i64 0) (z := .int .i64 r) (by go_simp)
        have cl1 : W1.heap.size < W2.heap.size := World.block_lt_of_cell? _ _ c10
        have kaW2 : Acc w W2 := by
          refine Acc.call ?_ hb
          (repeat' (first | assumption | exact Acc.refl _ | refine Acc.drew ?_ | refine Acc.drewN ?_ _ | refine Acc.alloc ?_ _ | refine Acc.setCell ?_ (by omega) _))
        clear hb
        go_wp2_with fail
        refine (gave_some HM.out (implMirror_any 0 y z hx hy hz _ (HL.out _ (by repeat' (first | assumption | exact Acc.refl _ | refine Acc.drew ?_ | refine Acc.alloc ?_ _ | refine Acc.setCell ?_ (by omega) _))))).mono ?_
        rintro e W3 ⟨rfl, hb⟩
        obtain ⟨c00, c01, c02⟩ := keep3 hb (b := W0.heap.size) (x := .int .i64 0) (y := .int .i64 y) (z := .int .i64 z) (by go_simp)
        have cl0 : W0.heap.size < W3.heap.size := World.block_lt_of_cell? _ _ c00
        obtain ⟨c10, c11, c12⟩ := keep3 hb (b := W1.heap.size) (x := .int .i64 p) (y := .int .i64 0) (z := .int .i64 r) (by go_simp)
        have cl1 : W1.heap.size < W3.heap.size := World.block_lt_of_cell? _ _ c10
        obtain ⟨c20, c21, c22⟩ := keep3 hb (b := W2.heap.size) (x := .int .i64 p) (y := .int .i64 0) (z := .int .i64 r) (by go_simp)
        have cl2 : W2.heap.size < W3.heap.size := World.block_lt_of_cell? _ _ c20
        have kaW3 : Acc w W3 := by
          refine Acc.call ?_ hb
          (repeat' (first | assumption | exact Acc.refl _ | refine Acc.drew ?_ | refine Acc.drewN ?_ _ | refine Acc.alloc ?_ _ | refine Acc.setCell ?_ (by omega) _))
        clear hb
        go_wp2_with fail
        refine (gave_some HP.out (implPower_any 0 (-y) z hx hy' hz _ (HL.out _ (by repeat' (first | assumption | exact Acc.refl _ | refine Acc.drew ?_ | refine Acc.alloc ?_ _ | refine Acc.setCell ?_ (by omega) _))))).mono ?_
        rintro e W4 ⟨rfl, hb⟩
        obtain ⟨c00, c01, c02⟩ := keep3 hb (b := W0.heap.size) (x := .int .i64 0) (y := .int .i64 y) (z := .int .i64 z) (by go_simp)
        have cl0 : W0.heap.size < W4.heap.size := World.block_lt_of_cell? _ _ c00
        obtain ⟨c10, c11, c12⟩ := keep3 hb (b := W1.heap.size) (x := .int .i64 p) (y := .int .i64 0) (z := .int .i64 r) (by go_simp)
        have cl1 : W1.heap.size < W4.heap.size := World.block_lt_of_cell? _ _ c10
        obtain ⟨c20, c21, c22⟩ := keep3 hb (b := W2.heap.size) (x := .int .i64 p) (y := .int .i64 0) (z := .int .i64 r) (by go_simp)
        have cl2 : W2.heap.size < W4.heap.size := World.block_lt_of_cell? _ _ c20
        obtain ⟨c30, c31, c32⟩ := keep3 hb (b := W3.heap.size) (x := .int .i64 0) (y := .int .i64 (-y)) (z := .int .i64 z) (by go_simp)
        have cl3 : W3.heap.size < W4.heap.size := World.block_lt_of_cell? _ _ c30
        have kaW4 : Acc w W4 := by
          refine Acc.call ?_ hb
          (repeat' (first | assumption | exact Acc.refl _ | refine Acc.drew ?_ | refine Acc.drewN ?_ _ | refine Acc.alloc ?_ _ | refine Acc.setCell ?_ (by omega) _))
        clear hb
        go_wp2_with fail
        go_ret
        refine ⟨rfl, ?_⟩
        show Acc w _
        (repeat' (first | assumption | exact Acc.refl _ | refine Acc.drew ?_ | refine Acc.drewN ?_ _ | refine Acc.alloc ?_ _ | refine Acc.setCell ?_ (by omega) _))
      · have hx1 : (x == 0) = false := by simpa using hx0
        clear hne
        refine (gave_some HO.out (implPower_any x y z hx hy hz _ (HL.out _ (by repeat' (first | assumption | exact Acc.refl _ | refine Acc.drew ?_ | refine Acc.alloc ?_ _ | refine Acc.setCell ?_ (by omega) _))))).mono ?_
        rintro e W1 ⟨rfl, hb⟩
        obtain ⟨c00, c01, c02⟩ := keep3 hb (b := W0.heap.size) (x := .int .i64 x) (y := .int .i64 y) (z := .int .i64 z) (by go_simp)
        have cl0 : W0.heap.size < W1.heap.size := World.block_lt_of_cell? _ _ c00
        have kaW1 : Acc w W1 := by
          refine Acc.call ?_ hb
          (repeat' (first | assumption | exact Acc.refl _ | refine Acc.drew ?_ | refine Acc.drewN ?_ _ | refine Acc.alloc ?_ _ | refine Acc.setCell ?_ (by omega) _))
        clear hb
        go_wp2_with fail
        refine (gave_some HO.out (specPower_any x y z _)).mono ?_
        rintro e W2 ⟨rfl, hb⟩
        obtain ⟨c00, c01, c02⟩ := keep3 hb (b := W0.heap.size) (x := .int .i64 x) (y := .int .i64 y) (z := .int .i64 z) (by go_simp)
        have cl0 : W0.heap.size < W2.heap.size := World.block_lt_of_cell? _ _ c00
        obtain ⟨c10, c11, c12⟩ := keep3 hb (b := W1.heap.size) (x := .int .i64 p) (y := .int .i64 0) (z := .int .i64 r) (by go_simp)
        have cl1 : W1.heap.size < W2.heap.size := World.block_lt_of_cell? _ _ c10
        have kaW2 : Acc w W2 := by
          refine Acc.call ?_ hb
          (repeat' (first | assumption | exact Acc.refl _ | refine Acc.drew ?_ | refine Acc.drewN ?_ _ | refine Acc.alloc ?_ _ | refine Acc.setCell ?_ (by omega) _))
        clear hb
        go_wp2_with fail
        refine (gave_some HM.out (implMirror_any x y z hx hy hz _ (HL.out _ (by repeat' (first | assumption | exact Acc.refl _ | refine Acc.drew ?_ | refine Acc.alloc ?_ _ | refine Acc.setCell ?_ (by omega) _))))).mono ?_
        rintro e W3 ⟨rfl, hb⟩
        obtain ⟨c00, c01, c02⟩ := keep3 hb (b := W0.heap.size) (x := .int .i64 x) (y := .int .i64 y) (z := .int .i64 z) (by go_simp)
        have cl0 : W0.heap.size < W3.heap.size := World.block_lt_of_cell? _ _ c00
        obtain ⟨c10, c11, c12⟩ := keep3 hb (b := W1.heap.size) (x := .int .i64 p) (y := .int .i64 0) (z := .int .i64 r) (by go_simp)
        have cl1 : W1.heap.size < W3.heap.size := World.block_lt_of_cell? _ _ c10
        obtain ⟨c20, c21, c22⟩ := keep3 hb (b := W2.heap.size) (x := .int .i64 p) (y := .int .i64 0) (z := .int .i64 r) (by go_simp)
        have cl2 : W2.heap.size < W3.heap.size := World.block_lt_of_cell? _ _ c20
        have kaW3 : Acc w W3 := by
          refine Acc.call ?_ hb
          (repeat' (first | assumption | exact Acc.refl _ | refine Acc.drew ?_ | refine Acc.drewN ?_ _ | refine Acc.alloc ?_ _ | refine Acc.setCell ?_ (by omega) _))
        clear hb
        go_wp2_with fail
        refine (gave_some HP.out (implPower_any x (-y) z hx hy' hz _ (HL.out _ (by repeat' (first | assumption | exact Acc.refl _ | refine Acc.drew ?_ | refine Acc.alloc ?_ _ | refine Acc.setCell ?_ (by omega) _))))).mono ?_
        rintro e W4 ⟨rfl, hb⟩
        obtain ⟨c00, c01, c02⟩ := keep3 hb (b := W0.heap.size) (x := .int .i64 x) (y := .int .i64 y) (z := .int .i64 z) (by go_simp)
        have cl0 : W0.heap.size < W4.heap.size := World.block_lt_of_cell? _ _ c00
        obtain ⟨c10, c11, c12⟩ := keep3 hb (b := W1.heap.size) (x := .int .i64 p) (y := .int .i64 0) (z := .int .i64 r) (by go_simp)
        have cl1 : W1.heap.size < W4.heap.size := World.block_lt_of_cell? _ _ c10
        obtain ⟨c20, c21, c22⟩ := keep3 hb (b := W2.heap.size) (x := .int .i64 p) (y := .int .i64 0) (z := .int .i64 r) (by go_simp)
        have cl2 : W2.heap.size < W4.heap.size := World.block_lt_of_cell? _ _ c20
        obtain ⟨c30, c31, c32⟩ := keep3 hb (b := W3.heap.size) (x := .int .i64 x) (y := .int .i64 (-y)) (z := .int .i64 z) (by go_simp)
        have cl3 : W3.heap.size < W4.heap.size := World.block_lt_of_cell? _ _ c30
        have kaW4 : Acc w W4 := by
          refine Acc.call ?_ hb
          (repeat' (first | assumption | exact Acc.refl _ | refine Acc.drew ?_ | refine Acc.drewN ?_ _ | refine Acc.alloc ?_ _ | refine Acc.setCell ?_ (by omega) _))
        clear hb
        go_wp2_with fail
        go_ret
        refine ⟨rfl, ?_⟩
        show Acc w _
        (repeat' (first | assumption | exact Acc.refl _ | refine Acc.drew ?_ | refine Acc.drewN ?_ _ | refine Acc.alloc ?_ _ | refine Acc.setCell ?_ (by omega) _))
end Go.Proofs.YtpbibfefcepeiaaDoor
