/-
  The law of quotients.
-/
import Derived.Test.YtpbibfefcepeiaaDoorDrawTwo
import Derived.Test.YtpbibfefcepeiaaDoorFracMath
import Derived.Test.YtpbibfefcepeiaaDoorGave
import Derived.Test.YtpbibfefcepeiaaDoorImplFn
namespace Go.Proofs.YtpbibfefcepeiaaDoor
open Go.ChangeShapes Go.WideShapes Go.ChangeAt Go.RowKit
set_option linter.unusedVariables false

set_option maxHeartbeats 4000000 in
theorem fnOver_law (w : World) (hl : Laid w) (s : Option Addr) (len cap : Nat) (h : Code8 w s len cap) :
    Calls Tryd.prog 8 #[.slice s len cap] w (Fine w) := by
  have hm := h.2.1
  have hl' := h.1
  unfold maxLen at hm
  have HL := Lib.hid fun W (k : Acc w W) => hl.acc k
  clear hl
  by_cases hlen : 1048576 < len
  · clear h
    have hlen' : (1048576 : Int) < (len : Int) := by omega
    go_enter Tryd.func8, Tryd.ntmps8
    go_wp2_with fail
    go_ret
    exact ⟨rfl, Below.refl _ _⟩
  have hlen' : ¬ (1048576 : Int) < (len : Int) := by omega
  go_enter Tryd.func8, Tryd.ntmps8
  go_wp2_with fail
  refine (drawFracOver_any s len cap w h).mono ?_
  rintro e W0 ⟨x, y, z, a, b, c, rfl, hx, hy, hz, ha, hb', hc, hb⟩
  have kaW0 : Acc w W0 := hb
  clear hb h
  go_wp2_with fail
  cases ho : overF x y z a b c with
  | none =>
    have HO := Lib.hid ho
    clear ho
    refine (gave_none HO.out (implOver_any x y z a b c hx hy hz ha hb' hc _ (HL.out _ (by repeat' (first | assumption | exact Acc.refl _ | refine Acc.drew ?_ | refine Acc.alloc ?_ _ | refine Acc.setCell ?_ (by omega) _))))).mono ?_
    rintro e W1 ⟨rfl, hb⟩
    obtain ⟨c00, c01, c02⟩ := keep3 hb (b := W0.heap.size) (x := .int .i64 x) (y := .int .i64 y) (z := .int .i64 z) (by go_simp)
    have cl0 : W0.heap.size < W1.heap.size := World.block_lt_of_cell? _ _ c00
    obtain ⟨c10, c11, c12⟩ := keep3 hb (b := W0.heap.size + 1) (x := .int .i64 a) (y := .int .i64 b) (z := .int .i64 c) (by go_simp)
    have cl1 : W0.heap.size + 1 < W1.heap.size := World.block_lt_of_cell? _ _ c10
    have kaW1 : Acc w W1 := by
      refine Acc.call ?_ hb
      (repeat' (first | assumption | exact Acc.refl _ | refine Acc.drew ?_ | refine Acc.drewN ?_ _ | refine Acc.alloc ?_ _ | refine Acc.setCell ?_ (by omega) _))
    clear hb
    go_wp2_with fail
    refine (gave_none HO.out (specOver_any x y z a b c _)).mono ?_
    rintro e W2 ⟨rfl, hb⟩
    obtain ⟨c00, c01, c02⟩ := keep3 hb (b := W0.heap.size) (x := .int .i64 x) (y := .int .i64 y) (z := .int .i64 z) (by go_simp)
    have cl0 : W0.heap.size < W2.heap.size := World.block_lt_of_cell? _ _ c00
    obtain ⟨c10, c11, c12⟩ := keep3 hb (b := W0.heap.size + 1) (x := .int .i64 a) (y := .int .i64 b) (z := .int .i64 c) (by go_simp)
    have cl1 : W0.heap.size + 1 < W2.heap.size := World.block_lt_of_cell? _ _ c10
    obtain ⟨c20, c21, c22⟩ := keep3 hb (b := W1.heap.size) (x := .int .i64 0) (y := .int .i64 0) (z := .int .i64 0) (by go_simp)
    have cl2 : W1.heap.size < W2.heap.size := World.block_lt_of_cell? _ _ c20
    have kaW2 : Acc w W2 := by
      refine Acc.call ?_ hb
      (repeat' (first | assumption | exact Acc.refl _ | refine Acc.drew ?_ | refine Acc.drewN ?_ _ | refine Acc.alloc ?_ _ | refine Acc.setCell ?_ (by omega) _))
    clear hb
    go_wp2_with fail
    go_ret
    refine ⟨rfl, ?_⟩
    show Acc w _
    (repeat' (first | assumption | exact Acc.refl _ | refine Acc.drew ?_ | refine Acc.drewN ?_ _ | refine Acc.alloc ?_ _ | refine Acc.setCell ?_ (by omega) _))
  | some v =>
    obtain ⟨p, q, r⟩ := v
    have HO := Lib.hid ho
    obtain ⟨hp, hq, hr⟩ := okF_i64 ((over_some ho).2.2.1)
    clear ho
    refine (gave_some HO.out (implOver_any x y z a b c hx hy hz ha hb' hc _ (HL.out _ (by repeat' (first | assumption | exact Acc.refl _ | refine Acc.drew ?_ | refine Acc.alloc ?_ _ | refine Acc.setCell ?_ (by omega) _))))).mono ?_
    rintro e W1 ⟨rfl, hb⟩
    obtain ⟨c00, c01, c02⟩ := keep3 hb (b := W0.heap.size) (x := .int .i64 x) (y := .int .i64 y) (z := .int .i64 z) (by go_simp)
    have cl0 : W0.heap.size < W1.heap.size := World.block_lt_of_cell? _ _ c00
    obtain ⟨c10, c11, c12⟩ := keep3 hb (b := W0.heap.size + 1) (x := .int .i64 a) (y := .int .i64 b) (z := .int .i64 c) (by go_simp)
    have cl1 : W0.heap.size + 1 < W1.heap.size := World.block_lt_of_cell? _ _ c10
    have kaW1 : Acc w W1 := by
      refine Acc.call ?_ hb
      (repeat' (first | assumption | exact Acc.refl _ | refine Acc.drew ?_ | refine Acc.drewN ?_ _ | refine Acc.alloc ?_ _ | refine Acc.setCell ?_ (by omega) _))
    clear hb
    go_wp2_with fail
    refine (gave_some HO.out (specOver_any x y z a b c _)).mono ?_
    rintro e W2 ⟨rfl, hb⟩
    obtain ⟨c00, c01, c02⟩ := keep3 hb (b := W0.heap.size) (x := .int .i64 x) (y := .int .i64 y) (z := .int .i64 z) (by go_simp)
    have cl0 : W0.heap.size < W2.heap.size := World.block_lt_of_cell? _ _ c00
    obtain ⟨c10, c11, c12⟩ := keep3 hb (b := W0.heap.size + 1) (x := .int .i64 a) (y := .int .i64 b) (z := .int .i64 c) (by go_simp)
    have cl1 : W0.heap.size + 1 < W2.heap.size := World.block_lt_of_cell? _ _ c10
    obtain ⟨c20, c21, c22⟩ := keep3 hb (b := W1.heap.size) (x := .int .i64 p) (y := .int .i64 q) (z := .int .i64 r) (by go_simp)
    have cl2 : W1.heap.size < W2.heap.size := World.block_lt_of_cell? _ _ c20
    have kaW2 : Acc w W2 := by
      refine Acc.call ?_ hb
      (repeat' (first | assumption | exact Acc.refl _ | refine Acc.drew ?_ | refine Acc.drewN ?_ _ | refine Acc.alloc ?_ _ | refine Acc.setCell ?_ (by omega) _))
    clear hb
    go_wp2_with fail
    cases hm2 : timesF p q r a b c with
    | none =>
      have HM := Lib.hid hm2
      clear hm2
      refine (gave_none HM.out (implTimes_any p q r a b c hp hq hr ha hb' hc _ (HL.out _ (by repeat' (first | assumption | exact Acc.refl _ | refine Acc.drew ?_ | refine Acc.alloc ?_ _ | refine Acc.setCell ?_ (by omega) _))))).mono ?_
      rintro e W3 ⟨rfl, hb⟩
      obtain ⟨c00, c01, c02⟩ := keep3 hb (b := W0.heap.size) (x := .int .i64 x) (y := .int .i64 y) (z := .int .i64 z) (by go_simp)
      have cl0 : W0.heap.size < W3.heap.size := World.block_lt_of_cell? _ _ c00
      obtain ⟨c10, c11, c12⟩ := keep3 hb (b := W0.heap.size + 1) (x := .int .i64 a) (y := .int .i64 b) (z := .int .i64 c) (by go_simp)
      have cl1 : W0.heap.size + 1 < W3.heap.size := World.block_lt_of_cell? _ _ c10
      obtain ⟨c20, c21, c22⟩ := keep3 hb (b := W1.heap.size) (x := .int .i64 p) (y := .int .i64 q) (z := .int .i64 r) (by go_simp)
      have cl2 : W1.heap.size < W3.heap.size := World.block_lt_of_cell? _ _ c20
      obtain ⟨c30, c31, c32⟩ := keep3 hb (b := W2.heap.size) (x := .int .i64 p) (y := .int .i64 q) (z := .int .i64 r) (by go_simp)
      have cl3 : W2.heap.size < W3.heap.size := World.block_lt_of_cell? _ _ c30
      have kaW3 : Acc w W3 := by
        refine Acc.call ?_ hb
        (repeat' (first | assumption | exact Acc.refl _ | refine Acc.drew ?_ | refine Acc.drewN ?_ _ | refine Acc.alloc ?_ _ | refine Acc.setCell ?_ (by omega) _))
      clear hb
      go_wp2_with fail
      go_ret
      refine ⟨rfl, ?_⟩
      show Acc w _
      (repeat' (first | assumption | exact Acc.refl _ | refine Acc.drew ?_ | refine Acc.drewN ?_ _ | refine Acc.alloc ?_ _ | refine Acc.setCell ?_ (by omega) _))
    | some m =>
      obtain ⟨u, v, t⟩ := m
      have hu := (over_times HO.out hm2).symm
      simp only [Prod.mk.injEq] at hu
      obtain ⟨rfl, rfl, rfl⟩ := hu
      have HM := Lib.hid hm2
      clear hm2
      refine (gave_some HM.out (implTimes_any p q r a b c hp hq hr ha hb' hc _ (HL.out _ (by repeat' (first | assumption | exact Acc.refl _ | refine Acc.drew ?_ | refine Acc.alloc ?_ _ | refine Acc.setCell ?_ (by omega) _))))).mono ?_
      rintro e W3 ⟨rfl, hb⟩
      obtain ⟨c00, c01, c02⟩ := keep3 hb (b := W0.heap.size) (x := .int .i64 x) (y := .int .i64 y) (z := .int .i64 z) (by go_simp)
      have cl0 : W0.heap.size < W3.heap.size := World.block_lt_of_cell? _ _ c00
      obtain ⟨c10, c11, c12⟩ := keep3 hb (b := W0.heap.size + 1) (x := .int .i64 a) (y := .int .i64 b) (z := .int .i64 c) (by go_simp)
      have cl1 : W0.heap.size + 1 < W3.heap.size := World.block_lt_of_cell? _ _ c10
      obtain ⟨c20, c21, c22⟩ := keep3 hb (b := W1.heap.size) (x := .int .i64 p) (y := .int .i64 q) (z := .int .i64 r) (by go_simp)
      have cl2 : W1.heap.size < W3.heap.size := World.block_lt_of_cell? _ _ c20
      obtain ⟨c30, c31, c32⟩ := keep3 hb (b := W2.heap.size) (x := .int .i64 p) (y := .int .i64 q) (z := .int .i64 r) (by go_simp)
      have cl3 : W2.heap.size < W3.heap.size := World.block_lt_of_cell? _ _ c30
      have kaW3 : Acc w W3 := by
        refine Acc.call ?_ hb
        (repeat' (first | assumption | exact Acc.refl _ | refine Acc.drew ?_ | refine Acc.drewN ?_ _ | refine Acc.alloc ?_ _ | refine Acc.setCell ?_ (by omega) _))
      clear hb
      go_wp2_with fail
      go_ret
      refine ⟨rfl, ?_⟩
      show Acc w _
      (repeat' (first | assumption | exact Acc.refl _ | refine Acc.drew ?_ | refine Acc.drewN ?_ _ | refine Acc.alloc ?_ _ | refine Acc.setCell ?_ (by omega) _))
end Go.Proofs.YtpbibfefcepeiaaDoor
