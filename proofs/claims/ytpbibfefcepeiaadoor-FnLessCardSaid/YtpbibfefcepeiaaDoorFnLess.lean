/-
  The law of differences.
-/
import Derived.Test.YtpbibfefcepeiaaDoorDrawTwo
import Derived.Test.YtpbibfefcepeiaaDoorFracMath
import Derived.Test.YtpbibfefcepeiaaDoorGave
import Derived.Test.YtpbibfefcepeiaaDoorImplFn
namespace Go.Proofs.YtpbibfefcepeiaaDoor
open Go.ChangeShapes Go.WideShapes Go.ChangeAt Go.RowKit
set_option linter.unusedVariables false

set_option maxHeartbeats 4000000 in
theorem fnLess_law (w : World) (hl : Laid w) (s : Option Addr) (len cap : Nat) (h : Code8 w s len cap) :
    Calls Tryd.prog 6 #[.slice s len cap] w (Fine w) := by
  have hm := h.2.1
  have hl' := h.1
  unfold maxLen at hm
  have HL := Lib.hid fun W (k : Acc w W) => hl.acc k
  clear hl
  by_cases hlen : 1048576 < len
  · clear h
    have hlen' : (1048576 : Int) < (len : Int) := by omega
    go_enter Tryd.func6, Tryd.ntmps6
    go_wp2_with fail
    go_ret
    exact ⟨rfl, Below.refl _ _⟩
  have hlen' : ¬ (1048576 : Int) < (len : Int) := by omega
  go_enter Tryd.func6, Tryd.ntmps6
  go_wp2_with fail
  refine (drawFracLess_any s len cap w h).mono ?_
  rintro e W0 ⟨x, y, z, a, b, c, rfl, hx, hy, hz, ha, hb', hc, hb⟩
  have kaW0 : Acc w W0 := hb
  clear hb h
  go_wp2_with fail
  cases ho : sumF (-1) x y z a b c with
  | none =>
    have HO := Lib.hid ho
    clear ho
    refine (gave_none HO.out (implLess_any x y z a b c hx hy hz ha hb' hc _ (HL.out _ (by repeat' (first | assumption | exact Acc.refl _ | refine Acc.drew ?_ | refine Acc.alloc ?_ _ | refine Acc.setCell ?_ (by omega) _))))).mono ?_
    rintro e W1 ⟨rfl, hb⟩
    obtain ⟨c00, c01, c02⟩ := keep3 hb (b := W0.heap.size) (x := .int .i64 x) (y := .int .i64 y) (z := .int .i64 z) (by go_simp)
    have cl0 : W0.heap.size < W1.heap.size := World.block_lt_of_cell? _ _ c00
    obtain ⟨c10, c11, c12⟩ := keep3 hb (b := W0.heap.size + 1) (x := .int .i64 a) (y := .int .i64 b) (z := .int .i64 c) (by go_simp)
    have cl1 : W0.heap.size + 1 < W1.heap.size := World.block_lt_of_cell? _ _ c10
    have kaW1 : Acc w W1 := by
      refine Acc.call ?_ hb
      (repeat' (first | assumption | exact Acc.refl _ | refine Acc.drew ?_ | refine Acc.drewN ?_ _ | refine Acc.alloc ?_ _ | refine Acc.setCell ?_ (by omega) _))
    clear hb
    go_wp2_with fail
    refine (gave_none HO.out (specLess_any x y z a b c _)).mono ?_
    rintro e W2 ⟨rfl, hb⟩
    obtain ⟨c00, c01, c02⟩ := keep3 hb (b := W0.heap.size) (x := .int .i64 x) (y := .int .i64 y) (z := .int .i64 z) (by go_simp)
    have cl0 : W0.heap.size < W2.heap.size := World.block_lt_of_cell? _ _ c00
    obtain ⟨c10, c11, c12⟩ := keep3 hb (b := W0.heap.size + 1) (x := .int .i64 a) (y := .int .i64 b) (z := .int .i64 c) (by go_simp)
    have cl1 : W0.heap.size + 1 < W2.heap.size := World.block_lt_of_cell? _ _ c10
    obtain ⟨c20, c21, c22⟩ := keep3 hb (b := W1.heap.size) (x := .int .i64 0) (y := .int .i64 0) (z := .int .i64 0) (by go_simp)
    have cl2 : W1.heap.size < W2.heap.size := World.block_lt_of_cell? _ _ c20
    have kaW2 : Acc w W2 := by
      refine Acc.call ?_ hb
      (repeat' (first | assumption | exact Acc.refl _ | refine Acc.drew ?_ | refine Acc.drewN ?_ _ | refine Acc.alloc ?_ _ | refine Acc.setCell ?_ (by omega) _))
    clear hb
    go_wp2_with fail
    go_ret
    refine ⟨rfl, ?_⟩
    show Acc w _
    (repeat' (first | assumption | exact Acc.refl _ | refine Acc.drew ?_ | refine Acc.drewN ?_ _ | refine Acc.alloc ?_ _ | refine Acc.setCell ?_ (by omega) _))
  | some v =>
    obtain ⟨p, q, r⟩ := v
    have HO := Lib.hid ho
    have n1 : 0 - p = -p := by omega
    have n2 : 0 - q = -q := by omega
    have br := okF_bd (sum_some ho).2.2.1
    obtain ⟨⟨p0, p1⟩, ⟨q0, q1⟩, -⟩ := br
    obtain ⟨hp, hq, hr⟩ := okF_i64 ((sum_some ho).2.2.1)
    clear ho
    refine (gave_some HO.out (implLess_any x y z a b c hx hy hz ha hb' hc _ (HL.out _ (by repeat' (first | assumption | exact Acc.refl _ | refine Acc.drew ?_ | refine Acc.alloc ?_ _ | refine Acc.setCell ?_ (by omega) _))))).mono ?_
    rintro e W1 ⟨rfl, hb⟩
    obtain ⟨c00, c01, c02⟩ := keep3 hb (b := W0.heap.size) (x := .int .i64 x) (y := .int .i64 y) (z := .int .i64 z) (by go_simp)
    have cl0 : W0.heap.size < W1.heap.size := World.block_lt_of_cell? _ _ c00
    obtain ⟨c10, c11, c12⟩ := keep3 hb (b := W0.heap.size + 1) (x := .int .i64 a) (y := .int .i64 b) (z := .int .i64 c) (by go_simp)
    have cl1 : W0.heap.size + 1 < W1.heap.size := World.block_lt_of_cell? _ _ c10
    have kaW1 : Acc w W1 := by
      refine Acc.call ?_ hb
      (repeat' (first | assumption | exact Acc.refl _ | refine Acc.drew ?_ | refine Acc.drewN ?_ _ | refine Acc.alloc ?_ _ | refine Acc.setCell ?_ (by omega) _))
    clear hb
    go_wp2_with fail
    refine (gave_some HO.out (specLess_any x y z a b c _)).mono ?_
    rintro e W2 ⟨rfl, hb⟩
    obtain ⟨c00, c01, c02⟩ := keep3 hb (b := W0.heap.size) (x := .int .i64 x) (y := .int .i64 y) (z := .int .i64 z) (by go_simp)
    have cl0 : W0.heap.size < W2.heap.size := World.block_lt_of_cell? _ _ c00
    obtain ⟨c10, c11, c12⟩ := keep3 hb (b := W0.heap.size + 1) (x := .int .i64 a) (y := .int .i64 b) (z := .int .i64 c) (by go_simp)
    have cl1 : W0.heap.size + 1 < W2.heap.size := World.block_lt_of_cell? _ _ c10
    obtain ⟨c20, c21, c22⟩ := keep3 hb (b := W1.heap.size) (x := .int .i64 p) (y := .int .i64 q) (z := .int .i64 r) (by go_simp)
    have cl2 : W1.heap.size < W2.heap.size := World.block_lt_of_cell? _ _ c20
    have kaW2 : Acc w W2 := by
      refine Acc.call ?_ hb
      (repeat' (first | assumption | exact Acc.refl _ | refine Acc.drew ?_ | refine Acc.drewN ?_ _ | refine Acc.alloc ?_ _ | refine Acc.setCell ?_ (by omega) _))
    clear hb
    go_wp2_with fail
    refine (gave_some (less_back HO.out) (implAdd_any p q r a b c hp hq hr ha hb' hc _ (HL.out _ (by repeat' (first | assumption | exact Acc.refl _ | refine Acc.drew ?_ | refine Acc.alloc ?_ _ | refine Acc.setCell ?_ (by omega) _))))).mono ?_
    rintro e W3 ⟨rfl, hb⟩
    obtain ⟨c00, c01, c02⟩ := keep3 hb (b := W0.heap.size) (x := .int .i64 x) (y := .int .i64 y) (z := .int .i64 z) (by go_simp)
    have cl0 : W0.heap.size < W3.heap.size := World.block_lt_of_cell? _ _ c00
    obtain ⟨c10, c11, c12⟩ := keep3 hb (b := W0.heap.size + 1) (x := .int .i64 a) (y := .int .i64 b) (z := .int .i64 c) (by go_simp)
    have cl1 : W0.heap.size + 1 < W3.heap.size := World.block_lt_of_cell? _ _ c10
    obtain ⟨c20, c21, c22⟩ := keep3 hb (b := W1.heap.size) (x := .int .i64 p) (y := .int .i64 q) (z := .int .i64 r) (by go_simp)
    have cl2 : W1.heap.size < W3.heap.size := World.block_lt_of_cell? _ _ c20
    obtain ⟨c30, c31, c32⟩ := keep3 hb (b := W2.heap.size) (x := .int .i64 p) (y := .int .i64 q) (z := .int .i64 r) (by go_simp)
    have cl3 : W2.heap.size < W3.heap.size := World.block_lt_of_cell? _ _ c30
    have kaW3 : Acc w W3 := by
      refine Acc.call ?_ hb
      (repeat' (first | assumption | exact Acc.refl _ | refine Acc.drew ?_ | refine Acc.drewN ?_ _ | refine Acc.alloc ?_ _ | refine Acc.setCell ?_ (by omega) _))
    clear hb
    go_wp2_with fail
    refine (gave_some (less_swap HO.out) (implLess_any a b c x y z ha hb' hc hx hy hz _ (HL.out _ (by repeat' (first | assumption | exact Acc.refl _ | refine Acc.drew ?_ | refine Acc.alloc ?_ _ | refine Acc.setCell ?_ (by omega) _))))).mono ?_
    rintro e W4 ⟨rfl, hb⟩
    obtain ⟨c00, c01, c02⟩ := keep3 hb (b := W0.heap.size) (x := .int .i64 x) (y := .int .i64 y) (z := .int .i64 z) (by go_simp)
    have cl0 : W0.heap.size < W4.heap.size := World.block_lt_of_cell? _ _ c00
    obtain ⟨c10, c11, c12⟩ := keep3 hb (b := W0.heap.size + 1) (x := .int .i64 a) (y := .int .i64 b) (z := .int .i64 c) (by go_simp)
    have cl1 : W0.heap.size + 1 < W4.heap.size := World.block_lt_of_cell? _ _ c10
    obtain ⟨c20, c21, c22⟩ := keep3 hb (b := W1.heap.size) (x := .int .i64 p) (y := .int .i64 q) (z := .int .i64 r) (by go_simp)
    have cl2 : W1.heap.size < W4.heap.size := World.block_lt_of_cell? _ _ c20
    obtain ⟨c30, c31, c32⟩ := keep3 hb (b := W2.heap.size) (x := .int .i64 p) (y := .int .i64 q) (z := .int .i64 r) (by go_simp)
    have cl3 : W2.heap.size < W4.heap.size := World.block_lt_of_cell? _ _ c30
    obtain ⟨c40, c41, c42⟩ := keep3 hb (b := W3.heap.size) (x := .int .i64 x) (y := .int .i64 y) (z := .int .i64 z) (by go_simp)
    have cl4 : W3.heap.size < W4.heap.size := World.block_lt_of_cell? _ _ c40
    have kaW4 : Acc w W4 := by
      refine Acc.call ?_ hb
      (repeat' (first | assumption | exact Acc.refl _ | refine Acc.drew ?_ | refine Acc.drewN ?_ _ | refine Acc.alloc ?_ _ | refine Acc.setCell ?_ (by omega) _))
    clear hb
    go_wp2_with fail
    go_ret
    refine ⟨rfl, ?_⟩
    show Acc w _
    (repeat' (first | assumption | exact Acc.refl _ | refine Acc.drew ?_ | refine Acc.drewN ?_ _ | refine Acc.alloc ?_ _ | refine Acc.setCell ?_ (by omega) _))
end Go.Proofs.YtpbibfefcepeiaaDoor
