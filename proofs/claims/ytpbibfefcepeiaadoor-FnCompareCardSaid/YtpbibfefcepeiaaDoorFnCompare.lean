/-
  The law of orders.
-/
import Derived.Test.YtpbibfefcepeiaaDoorDrawReal
import Derived.Test.YtpbibfefcepeiaaDoorFracMath
import Derived.Test.YtpbibfefcepeiaaDoorGave
import Derived.Test.YtpbibfefcepeiaaDoorImplFn
import Derived.Test.YtpbibfefcepeiaaDoorImplCompare
namespace Go.Proofs.YtpbibfefcepeiaaDoor
open Go.ChangeShapes Go.WideShapes Go.ChangeAt Go.RowKit
set_option linter.unusedVariables false

theorem cmp_none {o : Option Int} (h : o = none) {P : Program} {f : FuncId} {ar : Array Value} {w : World} (c : Calls P f ar w fun e w' => e = .returned (cmpV o) ∧ Below w.heap.size w w') :
    Calls P f ar w fun e w' => e = .returned (.tuple #[.int .i64 0, .bool false]) ∧ Below w.heap.size w w' := by subst h; exact c
theorem cmp_some {o : Option Int} {n : Int} (h : o = some n) {P : Program} {f : FuncId} {ar : Array Value} {w : World} (c : Calls P f ar w fun e w' => e = .returned (cmpV o) ∧ Below w.heap.size w w') :
    Calls P f ar w fun e w' => e = .returned (.tuple #[.int .i64 n, .bool true]) ∧ Below w.heap.size w w' := by subst h; exact c
theorem signI_cases (n : Int) : signI n = -1 ∧ n < 0 ∨ signI n = 0 ∧ n = 0 ∨ signI n = 1 ∧ 0 < n := by
  unfold signI
  repeat' split
  all_goals omega
set_option maxHeartbeats 4000000 in
theorem fnCompare_law (w : World) (hl : Laid w) (s : Option Addr) (len cap : Nat) (h : Code8 w s len cap) :
    Calls Tryd.prog 11 #[.slice s len cap] w (Fine w) := by
  have hm := h.2.1
  have hl' := h.1
  unfold maxLen at hm
  have HL := Lib.hid fun W (k : Acc w W) => hl.acc k
  clear hl
  by_cases hlen : 1048576 < len
  · clear h
    have hlen' : (1048576 : Int) < (len : Int) := by omega
    go_enter Tryd.func11, Tryd.ntmps11
    go_wp2_with fail
    go_ret
    exact ⟨rfl, Below.refl _ _⟩
  have hlen' : ¬ (1048576 : Int) < (len : Int) := by omega
  go_enter Tryd.func11, Tryd.ntmps11
  go_wp2_with fail
  refine (drawFracCompare_any s len cap w h).mono ?_
  rintro e W0 ⟨x, y, z, a, b, c, rfl, hx, hy, hz, ha, hb', hc, hb⟩
  have kaW0 : Acc w W0 := hb
  clear hb h
  go_wp2_with fail
  cases ho : compareF x y z a b c with
  | none =>
    have HO := Lib.hid ho
    clear ho
    refine (cmp_none HO.out (implCompare_any x y z a b c hx hy hz ha hb' hc _ (HL.out _ (by repeat' (first | assumption | exact Acc.refl _ | refine Acc.drew ?_ | refine Acc.alloc ?_ _ | refine Acc.setCell ?_ (by omega) _))))).mono ?_
    rintro e W1 ⟨rfl, hb⟩
    obtain ⟨c00, c01, c02⟩ := keep3 hb (b := W0.heap.size) (x := .int .i64 x) (y := .int .i64 y) (z := .int .i64 z) (by go_simp)
    have cl0 : W0.heap.size < W1.heap.size := World.block_lt_of_cell? _ _ c00
    obtain ⟨c10, c11, c12⟩ := keep3 hb (b := W0.heap.size + 1) (x := .int .i64 a) (y := .int .i64 b) (z := .int .i64 c) (by go_simp)
    have cl1 : W0.heap.size + 1 < W1.heap.size := World.block_lt_of_cell? _ _ c10
    have kaW1 : Acc w W1 := by
      refine Acc.call ?_ hb
      (repeat' (first | assumption | exact Acc.refl _ | refine Acc.drew ?_ | refine Acc.drewN ?_ _ | refine Acc.alloc ?_ _ | refine Acc.setCell ?_ (by omega) _))
    clear hb
    go_wp2_with fail
    refine (cmp_none HO.out (specCompare_any x y z a b c _)).mono ?_
    rintro e W2 ⟨rfl, hb⟩
    obtain ⟨c00, c01, c02⟩ := keep3 hb (b := W0.heap.size) (x := .int .i64 x) (y := .int .i64 y) (z := .int .i64 z) (by go_simp)
    have cl0 : W0.heap.size < W2.heap.size := World.block_lt_of_cell? _ _ c00
    obtain ⟨c10, c11, c12⟩ := keep3 hb (b := W0.heap.size + 1) (x := .int .i64 a) (y := .int .i64 b) (z := .int .i64 c) (by go_simp)
    have cl1 : W0.heap.size + 1 < W2.heap.size := World.block_lt_of_cell? _ _ c10
    have kaW2 : Acc w W2 := by
      refine Acc.call ?_ hb
      (repeat' (first | assumption | exact Acc.refl _ | refine Acc.drew ?_ | refine Acc.drewN ?_ _ | refine Acc.alloc ?_ _ | refine Acc.setCell ?_ (by omega) _))
    clear hb
    go_wp2_with fail
    go_ret
    refine ⟨rfl, ?_⟩
    show Acc w _
    (repeat' (first | assumption | exact Acc.refl _ | refine Acc.drew ?_ | refine Acc.drewN ?_ _ | refine Acc.alloc ?_ _ | refine Acc.setCell ?_ (by omega) _))
  | some n =>
    have hn : n = -1 ∨ n = 0 ∨ n = 1 := by
      obtain ⟨-, -, -, -, e⟩ := compare_some ho
      rcases signI_cases (x * c - a * z) with h | h | h <;> omega
    have hne : n = 0 ↔ (x = a ∧ y = b ∧ z = c) := by
      have := compare_same ho
      simpa only [Prod.mk.injEq] using this
    have hs : ∀ p q r, sumF (-1) x y z a b c = some (p, q, r) → n = -1 ∧ p < 0 ∨ n = 0 ∧ p = 0 ∨ n = 1 ∧ 0 < p := by
      intro p q r hm2
      have := compare_less ho hm2
      rcases signI_cases p with h | h | h <;> omega
    rcases hn with rfl | rfl | rfl
    · have HC := Lib.hid (show compareF a b c x y z = some (1) from compare_swap ho)
      have NE := Lib.hid (show ¬ (x = a ∧ y = b ∧ z = c) from fun h => by have := hne.2 h; omega)
      have HO := Lib.hid ho
      cases hm2 : sumF (-1) x y z a b c with
      | none =>
        have HM := Lib.hid hm2
        clear ho hm2 hne hs
        refine (cmp_some HO.out (implCompare_any x y z a b c hx hy hz ha hb' hc _ (HL.out _ (by repeat' (first | assumption | exact Acc.refl _ | refine Acc.drew ?_ | refine Acc.alloc ?_ _ | refine Acc.setCell ?_ (by omega) _))))).mono ?_
        rintro e W1 ⟨rfl, hb⟩
        obtain ⟨c00, c01, c02⟩ := keep3 hb (b := W0.heap.size) (x := .int .i64 x) (y := .int .i64 y) (z := .int .i64 z) (by go_simp)
        have cl0 : W0.heap.size < W1.heap.size := World.block_lt_of_cell? _ _ c00
        obtain ⟨c10, c11, c12⟩ := keep3 hb (b := W0.heap.size + 1) (x := .int .i64 a) (y := .int .i64 b) (z := .int .i64 c) (by go_simp)
        have cl1 : W0.heap.size + 1 < W1.heap.size := World.block_lt_of_cell? _ _ c10
        have kaW1 : Acc w W1 := by
          refine Acc.call ?_ hb
          (repeat' (first | assumption | exact Acc.refl _ | refine Acc.drew ?_ | refine Acc.drewN ?_ _ | refine Acc.alloc ?_ _ | refine Acc.setCell ?_ (by omega) _))
        clear hb
        go_wp2_with fail
        refine (cmp_some HO.out (specCompare_any x y z a b c _)).mono ?_
        rintro e W2 ⟨rfl, hb⟩
        obtain ⟨c00, c01, c02⟩ := keep3 hb (b := W0.heap.size) (x := .int .i64 x) (y := .int .i64 y) (z := .int .i64 z) (by go_simp)
        have cl0 : W0.heap.size < W2.heap.size := World.block_lt_of_cell? _ _ c00
        obtain ⟨c10, c11, c12⟩ := keep3 hb (b := W0.heap.size + 1) (x := .int .i64 a) (y := .int .i64 b) (z := .int .i64 c) (by go_simp)
        have cl1 : W0.heap.size + 1 < W2.heap.size := World.block_lt_of_cell? _ _ c10
        have kaW2 : Acc w W2 := by
          refine Acc.call ?_ hb
          (repeat' (first | assumption | exact Acc.refl _ | refine Acc.drew ?_ | refine Acc.drewN ?_ _ | refine Acc.alloc ?_ _ | refine Acc.setCell ?_ (by omega) _))
        clear hb
        go_wp2_with fail
        refine (cmp_some HC.out (implCompare_any a b c x y z ha hb' hc hx hy hz _ (HL.out _ (by repeat' (first | assumption | exact Acc.refl _ | refine Acc.drew ?_ | refine Acc.alloc ?_ _ | refine Acc.setCell ?_ (by omega) _))))).mono ?_
        rintro e W3 ⟨rfl, hb⟩
        obtain ⟨c00, c01, c02⟩ := keep3 hb (b := W0.heap.size) (x := .int .i64 x) (y := .int .i64 y) (z := .int .i64 z) (by go_simp)
        have cl0 : W0.heap.size < W3.heap.size := World.block_lt_of_cell? _ _ c00
        obtain ⟨c10, c11, c12⟩ := keep3 hb (b := W0.heap.size + 1) (x := .int .i64 a) (y := .int .i64 b) (z := .int .i64 c) (by go_simp)
        have cl1 : W0.heap.size + 1 < W3.heap.size := World.block_lt_of_cell? _ _ c10
        have kaW3 : Acc w W3 := by
          refine Acc.call ?_ hb
          (repeat' (first | assumption | exact Acc.refl _ | refine Acc.drew ?_ | refine Acc.drewN ?_ _ | refine Acc.alloc ?_ _ | refine Acc.setCell ?_ (by omega) _))
        clear hb
        go_wp2_with fail
        refine (gave_none HM.out (implLess_any x y z a b c hx hy hz ha hb' hc _ (HL.out _ (by repeat' (first | assumption | exact Acc.refl _ | refine Acc.drew ?_ | refine Acc.alloc ?_ _ | refine Acc.setCell ?_ (by omega) _))))).mono ?_
        rintro e W4 ⟨rfl, hb⟩
        obtain ⟨c00, c01, c02⟩ := keep3 hb (b := W0.heap.size) (x := .int .i64 x) (y := .int .i64 y) (z := .int .i64 z) (by go_simp)
        have cl0 : W0.heap.size < W4.heap.size := World.block_lt_of_cell? _ _ c00
        obtain ⟨c10, c11, c12⟩ := keep3 hb (b := W0.heap.size + 1) (x := .int .i64 a) (y := .int .i64 b) (z := .int .i64 c) (by go_simp)
        have cl1 : W0.heap.size + 1 < W4.heap.size := World.block_lt_of_cell? _ _ c10
        have kaW4 : Acc w W4 := by
          refine Acc.call ?_ hb
          (repeat' (first | assumption | exact Acc.refl _ | refine Acc.drew ?_ | refine Acc.drewN ?_ _ | refine Acc.alloc ?_ _ | refine Acc.setCell ?_ (by omega) _))
        clear hb
        clear HO HM HC
        go_wp2_with fail
        all_goals
          first
            | (exfalso; have h1 := NE.out; omega)
            | (go_ret; refine ⟨rfl, ?_⟩; show Acc w _; (repeat' (first | assumption | exact Acc.refl _ | refine Acc.drew ?_ | refine Acc.drewN ?_ _ | refine Acc.alloc ?_ _ | refine Acc.setCell ?_ (by omega) _)))
      | some o =>
        obtain ⟨p, q, r⟩ := o
        have HM := Lib.hid hm2
        have sg : p < 0 := by have := hs _ _ _ hm2; omega
        clear ho hm2 hne hs
        refine (cmp_some HO.out (implCompare_any x y z a b c hx hy hz ha hb' hc _ (HL.out _ (by repeat' (first | assumption | exact Acc.refl _ | refine Acc.drew ?_ | refine Acc.alloc ?_ _ | refine Acc.setCell ?_ (by omega) _))))).mono ?_
        rintro e W1 ⟨rfl, hb⟩
        obtain ⟨c00, c01, c02⟩ := keep3 hb (b := W0.heap.size) (x := .int .i64 x) (y := .int .i64 y) (z := .int .i64 z) (by go_simp)
        have cl0 : W0.heap.size < W1.heap.size := World.block_lt_of_cell? _ _ c00
        obtain ⟨c10, c11, c12⟩ := keep3 hb (b := W0.heap.size + 1) (x := .int .i64 a) (y := .int .i64 b) (z := .int .i64 c) (by go_simp)
        have cl1 : W0.heap.size + 1 < W1.heap.size := World.block_lt_of_cell? _ _ c10
        have kaW1 : Acc w W1 := by
          refine Acc.call ?_ hb
          (repeat' (first | assumption | exact Acc.refl _ | refine Acc.drew ?_ | refine Acc.drewN ?_ _ | refine Acc.alloc ?_ _ | refine Acc.setCell ?_ (by omega) _))
        clear hb
        go_wp2_with fail
        refine (cmp_some HO.out (specCompare_any x y z a b c _)).mono ?_
        rintro e W2 ⟨rfl, hb⟩
        obtain ⟨c00, c01, c02⟩ := keep3 hb (b := W0.heap.size) (x := .int .i64 x) (y := .int .i64 y) (z := .int .i64 z) (by go_simp)
        have cl0 : W0.heap.size < W2.heap.size := World.block_lt_of_cell? _ _ c00
        obtain ⟨c10, c11, c12⟩ := keep3 hb (b := W0.heap.size + 1) (x := .int .i64 a) (y := .int .i64 b) (z := .int .i64 c) (by go_simp)
        have cl1 : W0.heap.size + 1 < W2.heap.size := World.block_lt_of_cell? _ _ c10
        have kaW2 : Acc w W2 := by
          refine Acc.call ?_ hb
          (repeat' (first | assumption | exact Acc.refl _ | refine Acc.drew ?_ | refine Acc.drewN ?_ _ | refine Acc.alloc ?_ _ | refine Acc.setCell ?_ (by omega) _))
        clear hb
        go_wp2_with fail
        refine (cmp_some HC.out (implCompare_any a b c x y z ha hb' hc hx hy hz _ (HL.out _ (by repeat' (first | assumption | exact Acc.refl _ | refine Acc.drew ?_ | refine Acc.alloc ?_ _ | refine Acc.setCell ?_ (by omega) _))))).mono ?_
        rintro e W3 ⟨rfl, hb⟩
        obtain ⟨c00, c01, c02⟩ := keep3 hb (b := W0.heap.size) (x := .int .i64 x) (y := .int .i64 y) (z := .int .i64 z) (by go_simp)
        have cl0 : W0.heap.size < W3.heap.size := World.block_lt_of_cell? _ _ c00
        obtain ⟨c10, c11, c12⟩ := keep3 hb (b := W0.heap.size + 1) (x := .int .i64 a) (y := .int .i64 b) (z := .int .i64 c) (by go_simp)
        have cl1 : W0.heap.size + 1 < W3.heap.size := World.block_lt_of_cell? _ _ c10
        have kaW3 : Acc w W3 := by
          refine Acc.call ?_ hb
          (repeat' (first | assumption | exact Acc.refl _ | refine Acc.drew ?_ | refine Acc.drewN ?_ _ | refine Acc.alloc ?_ _ | refine Acc.setCell ?_ (by omega) _))
        clear hb
        go_wp2_with fail
        refine (gave_some HM.out (implLess_any x y z a b c hx hy hz ha hb' hc _ (HL.out _ (by repeat' (first | assumption | exact Acc.refl _ | refine Acc.drew ?_ | refine Acc.alloc ?_ _ | refine Acc.setCell ?_ (by omega) _))))).mono ?_
        rintro e W4 ⟨rfl, hb⟩
        obtain ⟨c00, c01, c02⟩ := keep3 hb (b := W0.heap.size) (x := .int .i64 x) (y := .int .i64 y) (z := .int .i64 z) (by go_simp)
        have cl0 : W0.heap.size < W4.heap.size := World.block_lt_of_cell? _ _ c00
        obtain ⟨c10, c11, c12⟩ := keep3 hb (b := W0.heap.size + 1) (x := .int .i64 a) (y := .int .i64 b) (z := .int .i64 c) (by go_simp)
        have cl1 : W0.heap.size + 1 < W4.heap.size := World.block_lt_of_cell? _ _ c10
        have kaW4 : Acc w W4 := by
          refine Acc.call ?_ hb
          (repeat' (first | assumption | exact Acc.refl _ | refine Acc.drew ?_ | refine Acc.drewN ?_ _ | refine Acc.alloc ?_ _ | refine Acc.setCell ?_ (by omega) _))
        clear hb
        clear HO HM HC
        go_wp2_with fail
        all_goals
          first
            | (exfalso; have h1 := NE.out; omega)
            | (go_ret; refine ⟨rfl, ?_⟩; show Acc w _; (repeat' (first | assumption | exact Acc.refl _ | refine Acc.drew ?_ | refine Acc.drewN ?_ _ | refine Acc.alloc ?_ _ | refine Acc.setCell ?_ (by omega) _)))
    · have HC := Lib.hid (show compareF a b c x y z = some (0) from compare_swap ho)
      obtain ⟨rfl, rfl, rfl⟩ := hne.1 rfl
      have HO := Lib.hid ho
      cases hm2 : sumF (-1) x y z x y z with
      | none =>
        have HM := Lib.hid hm2
        clear ho hm2 hne hs
        refine (cmp_some HO.out (implCompare_any x y z x y z hx hy hz hx hy hz _ (HL.out _ (by repeat' (first | assumption | exact Acc.refl _ | refine Acc.drew ?_ | refine Acc.alloc ?_ _ | refine Acc.setCell ?_ (by omega) _))))).mono ?_
        rintro e W1 ⟨rfl, hb⟩
        obtain ⟨c00, c01, c02⟩ := keep3 hb (b := W0.heap.size) (x := .int .i64 x) (y := .int .i64 y) (z := .int .i64 z) (by go_simp)
        have cl0 : W0.heap.size < W1.heap.size := World.block_lt_of_cell? _ _ c00
        obtain ⟨c10, c11, c12⟩ := keep3 hb (b := W0.heap.size + 1) (x := .int .i64 x) (y := .int .i64 y) (z := .int .i64 z) (by go_simp)
        have cl1 : W0.heap.size + 1 < W1.heap.size := World.block_lt_of_cell? _ _ c10
        have kaW1 : Acc w W1 := by
          refine Acc.call ?_ hb
          (repeat' (first | assumption | exact Acc.refl _ | refine Acc.drew ?_ | refine Acc.drewN ?_ _ | refine Acc.alloc ?_ _ | refine Acc.setCell ?_ (by omega) _))
        clear hb
        go_wp2_with fail
        refine (cmp_some HO.out (specCompare_any x y z x y z _)).mono ?_
        rintro e W2 ⟨rfl, hb⟩
        obtain ⟨c00, c01, c02⟩ := keep3 hb (b := W0.heap.size) (x := .int .i64 x) (y := .int .i64 y) (z := .int .i64 z) (by go_simp)
        have cl0 : W0.heap.size < W2.heap.size := World.block_lt_of_cell? _ _ c00
        obtain ⟨c10, c11, c12⟩ := keep3 hb (b := W0.heap.size + 1) (x := .int .i64 x) (y := .int .i64 y) (z := .int .i64 z) (by go_simp)
        have cl1 : W0.heap.size + 1 < W2.heap.size := World.block_lt_of_cell? _ _ c10
        have kaW2 : Acc w W2 := by
          refine Acc.call ?_ hb
          (repeat' (first | assumption | exact Acc.refl _ | refine Acc.drew ?_ | refine Acc.drewN ?_ _ | refine Acc.alloc ?_ _ | refine Acc.setCell ?_ (by omega) _))
        clear hb
        go_wp2_with fail
        refine (cmp_some HC.out (implCompare_any x y z x y z hx hy hz hx hy hz _ (HL.out _ (by repeat' (first | assumption | exact Acc.refl _ | refine Acc.drew ?_ | refine Acc.alloc ?_ _ | refine Acc.setCell ?_ (by omega) _))))).mono ?_
        rintro e W3 ⟨rfl, hb⟩
        obtain ⟨c00, c01, c02⟩ := keep3 hb (b := W0.heap.size) (x := .int .i64 x) (y := .int .i64 y) (z := .int .i64 z) (by go_simp)
        have cl0 : W0.heap.size < W3.heap.size := World.block_lt_of_cell? _ _ c00
        obtain ⟨c10, c11, c12⟩ := keep3 hb (b := W0.heap.size + 1) (x := .int .i64 x) (y := .int .i64 y) (z := .int .i64 z) (by go_simp)
        have cl1 : W0.heap.size + 1 < W3.heap.size := World.block_lt_of_cell? _ _ c10
        have kaW3 : Acc w W3 := by
          refine Acc.call ?_ hb
          (repeat' (first | assumption | exact Acc.refl _ | refine Acc.drew ?_ | refine Acc.drewN ?_ _ | refine Acc.alloc ?_ _ | refine Acc.setCell ?_ (by omega) _))
        clear hb
        go_wp2_with fail
        refine (gave_none HM.out (implLess_any x y z x y z hx hy hz hx hy hz _ (HL.out _ (by repeat' (first | assumption | exact Acc.refl _ | refine Acc.drew ?_ | refine Acc.alloc ?_ _ | refine Acc.setCell ?_ (by omega) _))))).mono ?_
        rintro e W4 ⟨rfl, hb⟩
        obtain ⟨c00, c01, c02⟩ := keep3 hb (b := W0.heap.size) (x := .int .i64 x) (y := .int .i64 y) (z := .int .i64 z) (by go_simp)
        have cl0 : W0.heap.size < W4.heap.size := World.block_lt_of_cell? _ _ c00
        obtain ⟨c10, c11, c12⟩ := keep3 hb (b := W0.heap.size + 1) (x := .int .i64 x) (y := .int .i64 y) (z := .int .i64 z) (by go_simp)
        have cl1 : W0.heap.size + 1 < W4.heap.size := World.block_lt_of_cell? _ _ c10
        have kaW4 : Acc w W4 := by
          refine Acc.call ?_ hb
          (repeat' (first | assumption | exact Acc.refl _ | refine Acc.drew ?_ | refine Acc.drewN ?_ _ | refine Acc.alloc ?_ _ | refine Acc.setCell ?_ (by omega) _))
        clear hb
        clear HO HM HC
        go_wp2_with fail
        all_goals
          first
            | (exfalso; omega)
            | (go_ret; refine ⟨rfl, ?_⟩; show Acc w _; (repeat' (first | assumption | exact Acc.refl _ | refine Acc.drew ?_ | refine Acc.drewN ?_ _ | refine Acc.alloc ?_ _ | refine Acc.setCell ?_ (by omega) _)))
      | some o =>
        obtain ⟨p, q, r⟩ := o
        have HM := Lib.hid hm2
        have sg : p = 0 := by have := hs _ _ _ hm2; omega
        clear ho hm2 hne hs
        subst sg
        refine (cmp_some HO.out (implCompare_any x y z x y z hx hy hz hx hy hz _ (HL.out _ (by repeat' (first | assumption | exact Acc.refl _ | refine Acc.drew ?_ | refine Acc.alloc ?_ _ | refine Acc.setCell ?_ (by omega) _))))).mono ?_
        rintro e W1 ⟨rfl, hb⟩
        obtain ⟨c00, c01, c02⟩ := keep3 hb (b := W0.heap.size) (x := .int .i64 x) (y := .int .i64 y) (z := .int .i64 z) (by go_simp)
        have cl0 : W0.heap.size < W1.heap.size := World.block_lt_of_cell? _ _ c00
        obtain ⟨c10, c11, c12⟩ := keep3 hb (b := W0.heap.size + 1) (x := .int .i64 x) (y := .int .i64 y) (z := .int .i64 z) (by go_simp)
        have cl1 : W0.heap.size + 1 < W1.heap.size := World.block_lt_of_cell? _ _ c10
        have kaW1 : Acc w W1 := by
          refine Acc.call ?_ hb
          (repeat' (first | assumption | exact Acc.refl _ | refine Acc.drew ?_ | refine Acc.drewN ?_ _ | refine Acc.alloc ?_ _ | refine Acc.setCell ?_ (by omega) _))
        clear hb
        go_wp2_with fail
        refine (cmp_some HO.out (specCompare_any x y z x y z _)).mono ?_
        rintro e W2 ⟨rfl, hb⟩
        obtain ⟨c00, c01, c02⟩ := keep3 hb (b := W0.heap.size) (x := .int .i64 x) (y := .int .i64 y) (z := .int .i64 z) (by go_simp)
        have cl0 : W0.heap.size < W2.heap.size := World.block_lt_of_cell? _ _ c00
        obtain ⟨c10, c11, c12⟩ := keep3 hb (b := W0.heap.size + 1) (x := .int .i64 x) (y := .int .i64 y) (z := .int .i64 z) (by go_simp)
        have cl1 : W0.heap.size + 1 < W2.heap.size := World.block_lt_of_cell? _ _ c10
        have kaW2 : Acc w W2 := by
          refine Acc.call ?_ hb
          (repeat' (first | assumption | exact Acc.refl _ | refine Acc.drew ?_ | refine Acc.drewN ?_ _ | refine Acc.alloc ?_ _ | refine Acc.setCell ?_ (by omega) _))
        clear hb
        go_wp2_with fail
        refine (cmp_some HC.out (implCompare_any x y z x y z hx hy hz hx hy hz _ (HL.out _ (by repeat' (first | assumption | exact Acc.refl _ | refine Acc.drew ?_ | refine Acc.alloc ?_ _ | refine Acc.setCell ?_ (by omega) _))))).mono ?_
        rintro e W3 ⟨rfl, hb⟩
        obtain ⟨c00, c01, c02⟩ := keep3 hb (b := W0.heap.size) (x := .int .i64 x) (y := .int .i64 y) (z := .int .i64 z) (by go_simp)
        have cl0 : W0.heap.size < W3.heap.size := World.block_lt_of_cell? _ _ c00
        obtain ⟨c10, c11, c12⟩ := keep3 hb (b := W0.heap.size + 1) (x := .int .i64 x) (y := .int .i64 y) (z := .int .i64 z) (by go_simp)
        have cl1 : W0.heap.size + 1 < W3.heap.size := World.block_lt_of_cell? _ _ c10
        have kaW3 : Acc w W3 := by
          refine Acc.call ?_ hb
          (repeat' (first | assumption | exact Acc.refl _ | refine Acc.drew ?_ | refine Acc.drewN ?_ _ | refine Acc.alloc ?_ _ | refine Acc.setCell ?_ (by omega) _))
        clear hb
        go_wp2_with fail
        refine (gave_some HM.out (implLess_any x y z x y z hx hy hz hx hy hz _ (HL.out _ (by repeat' (first | assumption | exact Acc.refl _ | refine Acc.drew ?_ | refine Acc.alloc ?_ _ | refine Acc.setCell ?_ (by omega) _))))).mono ?_
        rintro e W4 ⟨rfl, hb⟩
        obtain ⟨c00, c01, c02⟩ := keep3 hb (b := W0.heap.size) (x := .int .i64 x) (y := .int .i64 y) (z := .int .i64 z) (by go_simp)
        have cl0 : W0.heap.size < W4.heap.size := World.block_lt_of_cell? _ _ c00
        obtain ⟨c10, c11, c12⟩ := keep3 hb (b := W0.heap.size + 1) (x := .int .i64 x) (y := .int .i64 y) (z := .int .i64 z) (by go_simp)
        have cl1 : W0.heap.size + 1 < W4.heap.size := World.block_lt_of_cell? _ _ c10
        have kaW4 : Acc w W4 := by
          refine Acc.call ?_ hb
          (repeat' (first | assumption | exact Acc.refl _ | refine Acc.drew ?_ | refine Acc.drewN ?_ _ | refine Acc.alloc ?_ _ | refine Acc.setCell ?_ (by omega) _))
        clear hb
        clear HO HM HC
        go_wp2_with fail
        all_goals
          first
            | (exfalso; omega)
            | (go_ret; refine ⟨rfl, ?_⟩; show Acc w _; (repeat' (first | assumption | exact Acc.refl _ | refine Acc.drew ?_ | refine Acc.drewN ?_ _ | refine Acc.alloc ?_ _ | refine Acc.setCell ?_ (by omega) _)))
    · have HC := Lib.hid (show compareF a b c x y z = some (-1) from compare_swap ho)
      have NE := Lib.hid (show ¬ (x = a ∧ y = b ∧ z = c) from fun h => by have := hne.2 h; omega)
      have HO := Lib.hid ho
      cases hm2 : sumF (-1) x y z a b c with
      | none =>
        have HM := Lib.hid hm2
        clear ho hm2 hne hs
        refine (cmp_some HO.out (implCompare_any x y z a b c hx hy hz ha hb' hc _ (HL.out _ (by repeat' (first | assumption | exact Acc.refl _ | refine Acc.drew ?_ | refine Acc.alloc ?_ _ | refine Acc.setCell ?_ (by omega) _))))).mono ?_
        rintro e W1 ⟨rfl, hb⟩
        obtain ⟨c00, c01, c02⟩ := keep3 hb (b := W0.heap.size) (x := .int .i64 x) (y := .int .i64 y) (z := .int .i64 z) (by go_simp)
        have cl0 : W0.heap.size < W1.heap.size := World.block_lt_of_cell? _ _ c00
        obtain ⟨c10, c11, c12⟩ := keep3 hb (b := W0.heap.size + 1) (x := .int .i64 a) (y := .int .i64 b) (z := .int .i64 c) (by go_simp)
        have cl1 : W0.heap.size + 1 < W1.heap.size := World.block_lt_of_cell? _ _ c10
        have kaW1 : Acc w W1 := by
          refine Acc.call ?_ hb
          (repeat' (first | assumption | exact Acc.refl _ | refine Acc.drew ?_ | refine Acc.drewN ?_ _ | refine Acc.alloc ?_ _ | refine Acc.setCell ?_ (by omega) _))
        clear hb
        go_wp2_with fail
        refine (cmp_some HO.out (specCompare_any x y z a b c _)).mono ?_
        rintro e W2 ⟨rfl, hb⟩
        obtain ⟨c00, c01, c02⟩ := keep3 hb (b := W0.heap.size) (x := .int .i64 x) (y := .int .i64 y) (z := .int .i64 z) (by go_simp)
        have cl0 : W0.heap.size < W2.heap.size := World.block_lt_of_cell? _ _ c00
        obtain ⟨c10, c11, c12⟩ := keep3 hb (b := W0.heap.size + 1) (x := .int .i64 a) (y := .int .i64 b) (z := .int .i64 c) (by go_simp)
        have cl1 : W0.heap.size + 1 < W2.heap.size := World.block_lt_of_cell? _ _ c10
        have kaW2 : Acc w W2 := by
          refine Acc.call ?_ hb
          (repeat' (first | assumption | exact Acc.refl _ | refine Acc.drew ?_ | refine Acc.drewN ?_ _ | refine Acc.alloc ?_ _ | refine Acc.setCell ?_ (by omega) _))
        clear hb
        go_wp2_with fail
        refine (cmp_some HC.out (implCompare_any a b c x y z ha hb' hc hx hy hz _ (HL.out _ (by repeat' (first | assumption | exact Acc.refl _ | refine Acc.drew ?_ | refine Acc.alloc ?_ _ | refine Acc.setCell ?_ (by omega) _))))).mono ?_
        rintro e W3 ⟨rfl, hb⟩
        obtain ⟨c00, c01, c02⟩ := keep3 hb (b := W0.heap.size) (x := .int .i64 x) (y := .int .i64 y) (z := .int .i64 z) (by go_simp)
        have cl0 : W0.heap.size < W3.heap.size := World.block_lt_of_cell? _ _ c00
        obtain ⟨c10, c11, c12⟩ := keep3 hb (b := W0.heap.size + 1) (x := .int .i64 a) (y := .int .i64 b) (z := .int .i64 c) (by go_simp)
        have cl1 : W0.heap.size + 1 < W3.heap.size := World.block_lt_of_cell? _ _ c10
        have kaW3 : Acc w W3 := by
          refine Acc.call ?_ hb
          (repeat' (first | assumption | exact Acc.refl _ | refine Acc.drew ?_ | refine Acc.drewN ?_ _ | refine Acc.alloc ?_ _ | refine Acc.setCell ?_ (by omega) _))
        clear hb
        go_wp2_with fail
        refine (gave_none HM.out (implLess_any x y z a b c hx hy hz ha hb' hc _ (HL.out _ (by repeat' (first | assumption | exact Acc.refl _ | refine Acc.drew ?_ | refine Acc.alloc ?_ _ | refine Acc.setCell ?_ (by omega) _))))).mono ?_
        rintro e W4 ⟨rfl, hb⟩
        obtain ⟨c00, c01, c02⟩ := keep3 hb (b := W0.heap.size) (x := .int .i64 x) (y := .int .i64 y) (z := .int .i64 z) (by go_simp)
        have cl0 : W0.heap.size < W4.heap.size := World.block_lt_of_cell? _ _ c00
        obtain ⟨c10, c11, c12⟩ := keep3 hb (b := W0.heap.size + 1) (x := .int .i64 a) (y := .int .i64 b) (z := .int .i64 c) (by go_simp)
        have cl1 : W0.heap.size + 1 < W4.heap.size := World.block_lt_of_cell? _ _ c10
        have kaW4 : Acc w W4 := by
          refine Acc.call ?_ hb
          (repeat' (first | assumption | exact Acc.refl _ | refine Acc.drew ?_ | refine Acc.drewN ?_ _ | refine Acc.alloc ?_ _ | refine Acc.setCell ?_ (by omega) _))
        clear hb
        clear HO HM HC
        go_wp2_with fail
        all_goals
          first
            | (exfalso; have h1 := NE.out; omega)
            | (go_ret; refine ⟨rfl, ?_⟩; show Acc w _; (repeat' (first | assumption | exact Acc.refl _ | refine Acc.drew ?_ | refine Acc.drewN ?_ _ | refine Acc.alloc ?_ _ | refine Acc.setCell ?_ (by omega) _)))
      | some o =>
        obtain ⟨p, q, r⟩ := o
        have HM := Lib.hid hm2
        have sg : 0 < p := by have := hs _ _ _ hm2; omega
        clear ho hm2 hne hs
        refine (cmp_some HO.out (implCompare_any x y z a b c hx hy hz ha hb' hc _ (HL.out _ (by repeat' (first | assumption | exact Acc.refl _ | refine Acc.drew ?_ | refine Acc.alloc ?_ _ | refine Acc.setCell ?_ (by omega) _))))).mono ?_
        rintro e W1 ⟨rfl, hb⟩
        obtain ⟨c00, c01, c02⟩ := keep3 hb (b := W0.heap.size) (x := .int .i64 x) (y := .int .i64 y) (z := .int .i64 z) (by go_simp)
        have cl0 : W0.heap.size < W1.heap.size := World.block_lt_of_cell? _ _ c00
        obtain ⟨c10, c11, c12⟩ := keep3 hb (b := W0.heap.size + 1) (x := .int .i64 a) (y := .int .i64 b) (z := .int .i64 c) (by go_simp)
        have cl1 : W0.heap.size + 1 < W1.heap.size := World.block_lt_of_cell? _ _ c10
        have kaW1 : Acc w W1 := by
          refine Acc.call ?_ hb
          (repeat' (first | assumption | exact Acc.refl _ | refine Acc.drew ?_ | refine Acc.drewN ?_ _ | refine Acc.alloc ?_ _ | refine Acc.setCell ?_ (by omega) _))
        clear hb
        go_wp2_with fail
        refine (cmp_some HO.out (specCompare_any x y z a b c _)).mono ?_
        rintro e W2 ⟨rfl, hb⟩
        obtain ⟨c00, c01, c02⟩ := keep3 hb (b := W0.heap.size) (x := .int .i64 x) (y := .int .i64 y) (z := .int .i64 z) (by go_simp)
        have cl0 : W0.heap.size < W2.heap.size := World.block_lt_of_cell? _ _ c00
        obtain ⟨c10, c11, c12⟩ := keep3 hb (b := W0.heap.size + 1) (x := .int .i64 a) (y := .int .i64 b) (z := .int .i64 c) (by go_simp)
        have cl1 : W0.heap.size + 1 < W2.heap.size := World.block_lt_of_cell? _ _ c10
        have kaW2 : Acc w W2 := by
          refine Acc.call ?_ hb
          (repeat' (first | assumption | exact Acc.refl _ | refine Acc.drew ?_ | refine Acc.drewN ?_ _ | refine Acc.alloc ?_ _ | refine Acc.setCell ?_ (by omega) _))
        clear hb
        go_wp2_with fail
        refine (cmp_some HC.out (implCompare_any a b c x y z ha hb' hc hx hy hz _ (HL.out _ (by repeat' (first | assumption | exact Acc.refl _ | refine Acc.drew ?_ | refine Acc.alloc ?_ _ | refine Acc.setCell ?_ (by omega) _))))).mono ?_
        rintro e W3 ⟨rfl, hb⟩
        obtain ⟨c00, c01, c02⟩ := keep3 hb (b := W0.heap.size) (x := .int .i64 x) (y := .int .i64 y) (z := .int .i64 z) (by go_simp)
        have cl0 : W0.heap.size < W3.heap.size := World.block_lt_of_cell? _ _ c00
        obtain ⟨c10, c11, c12⟩ := keep3 hb (b := W0.heap.size + 1) (x := .int .i64 a) (y := .int .i64 b) (z := .int .i64 c) (by go_simp)
        have cl1 : W0.heap.size + 1 < W3.heap.size := World.block_lt_of_cell? _ _ c10
        have kaW3 : Acc w W3 := by
          refine Acc.call ?_ hb
          (repeat' (first | assumption | exact Acc.refl _ | refine Acc.drew ?_ | refine Acc.drewN ?_ _ | refine Acc.alloc ?_ _ | refine Acc.setCell ?_ (by omega) _))
        clear hb
        go_wp2_with fail
        refine (gave_some HM.out (implLess_any x y z a b c hx hy hz ha hb' hc _ (HL.out _ (by repeat' (first | assumption | exact Acc.refl _ | refine Acc.drew ?_ | refine Acc.alloc ?_ _ | refine Acc.setCell ?_ (by omega) _))))).mono ?_
        rintro e W4 ⟨rfl, hb⟩
        obtain ⟨c00, c01, c02⟩ := keep3 hb (b := W0.heap.size) (x := .int .i64 x) (y := .int .i64 y) (z := .int .i64 z) (by go_simp)
        have cl0 : W0.heap.size < W4.heap.size := World.block_lt_of_cell? _ _ c00
        obtain ⟨c10, c11, c12⟩ := keep3 hb (b := W0.heap.size + 1) (x := .int .i64 a) (y := .int .i64 b) (z := .int .i64 c) (by go_simp)
        have cl1 : W0.heap.size + 1 < W4.heap.size := World.block_lt_of_cell? _ _ c10
        have kaW4 : Acc w W4 := by
          refine Acc.call ?_ hb
          (repeat' (first | assumption | exact Acc.refl _ | refine Acc.drew ?_ | refine Acc.drewN ?_ _ | refine Acc.alloc ?_ _ | refine Acc.setCell ?_ (by omega) _))
        clear hb
        clear HO HM HC
        go_wp2_with fail
        all_goals
          first
            | (exfalso; have h1 := NE.out; omega)
            | (go_ret; refine ⟨rfl, ?_⟩; show Acc w _; (repeat' (first | assumption | exact Acc.refl _ | refine Acc.drew ?_ | refine Acc.drewN ?_ _ | refine Acc.alloc ?_ _ | refine Acc.setCell ?_ (by omega) _)))
end Go.Proofs.YtpbibfefcepeiaaDoor
