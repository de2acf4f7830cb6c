/-
  The law of made fractions: its draw, its walk.
-/
import Derived.Test.YtpbibfefcepeiaaDoorDrawOne
import Derived.Test.YtpbibfefcepeiaaDoorFracMath
import Derived.Test.YtpbibfefcepeiaaDoorGave
import Derived.Test.YtpbibfefcepeiaaDoorImplMake
import Derived.Test.YtpbibfefcepeiaaDoorImplValid
namespace Go.Proofs.YtpbibfefcepeiaaDoor
open Go.ChangeShapes Go.WideShapes Go.ChangeAt Go.RowKit
set_option linter.unusedVariables false

/-- Parts and a bottom. -/
def Drew3 (w : World) (e : Ending) (w' : World) : Prop :=
  ∃ x y z : Int, e = .returned (.tuple #[.int .i64 x, .int .i64 y, .int .i64 z]) ∧ (-20 ≤ x ∧ x ≤ 20) ∧ (-20 ≤ y ∧ y ≤ 20) ∧ (-13 ≤ z ∧ z ≤ 3000000011) ∧ Below w.heap.size w w'
set_option maxHeartbeats 2000000 in
theorem drawFracMake_any (a : Option Addr) (len cap : Nat) (w : World) (h : Code8 w a len cap) :
    Calls Tryd.prog 18 #[.slice a len cap] w (Drew3 w) := by
  have H0 := Lib.hid h
  clear h
  go_enter Tryd.func18, Tryd.ntmps18
  go_wp2_with fail
  refine (open_any a len cap _ H0.out).mono ?_
  rintro e w1 ⟨b, rfl, hb1, bel, hr⟩
  have HR := Lib.hid hr
  have oa : Acc w w1 := bel
  clear hr H0 bel
  go_wp2_with fail
  refine (pick_any b 0 41 _ HR.out (by omega) (by omega) (by omega)).mono ?_
  rintro e w2 ⟨j, rfl, j0, j1, ho, hr⟩
  have oa : Acc w w2 := Below.trans oa (ho.below (Below.size oa) (by omega))
  have HR := Lib.hid hr
  clear hr ho
  go_wp2_with fail
  refine (pick_any b 1 41 _ HR.out (by omega) (by omega) (by omega)).mono ?_
  rintro e w3 ⟨k, rfl, k0, k1, ho, hr⟩
  have oa : Acc w w3 := Below.trans oa (ho.below (Below.size oa) (by omega))
  have HR := Lib.hid hr
  clear hr ho
  go_wp2_with fail
  refine (pick_any b 2 12 _ HR.out (by omega) (by omega) (by omega)).mono ?_
  rintro e w4 ⟨m, rfl, m0, m1, ho, hr⟩
  have oa : Acc w w4 := Below.trans oa (ho.below (Below.size oa) (by omega))
  have HR := Lib.hid hr
  clear hr ho
  go_wp2_with fail
  refine (pick_any b 3 20 _ HR.out (by omega) (by omega) (by omega)).mono ?_
  rintro e w5 ⟨f, rfl, f0, f1, ho, hr⟩
  have oa : Acc w w5 := Below.trans oa (ho.below (Below.size oa) (by omega))
  have HR := Lib.hid hr
  clear hr ho
  have N1 : 0 ≤ f.tdiv 19 := Int.tdiv_nonneg (by omega) (by omega)
  have N2 : f.tdiv 19 ≤ 1 := by rw [Int.tdiv_eq_ediv_of_nonneg (by omega)]; omega
  go_wp2_with fail
  refine (pick_any b 4 20 _ HR.out (by omega) (by omega) (by omega)).mono ?_
  rintro e w6 ⟨g, rfl, g0, g1, ho, hr⟩
  have oa : Acc w w6 := Below.trans oa (ho.below (Below.size oa) (by omega))
  have HR := Lib.hid hr
  clear hr ho
  have N3 : 0 ≤ g.tdiv 19 := Int.tdiv_nonneg (by omega) (by omega)
  have N4 : g.tdiv 19 ≤ 1 := by rw [Int.tdiv_eq_ediv_of_nonneg (by omega)]; omega
  go_wp2_with fail
  go_ret3
  exact ⟨_, _, _, rfl, by omega, by omega, by omega, oa⟩
theorem valid_at {a b : Bool} (h : a = b) {P : Program} {f : FuncId} {ar : Array Value} {w : World} (c : Calls P f ar w fun e w' => e = .returned (.bool a) ∧ Below w.heap.size w w') :
    Calls P f ar w fun e w' => e = .returned (.bool b) ∧ Below w.heap.size w w' := by subst h; exact c
set_option maxHeartbeats 4000000 in
theorem fnMake_law (w : World) (hl : Laid w) (s : Option Addr) (len cap : Nat) (h : Code8 w s len cap) :
    Calls Tryd.prog 4 #[.slice s len cap] w (Fine w) := by
  have hm := h.2.1
  have hl' := h.1
  unfold maxLen at hm
  have HL := Lib.hid fun W (k : Acc w W) => hl.acc k
  clear hl
  by_cases hlen : 1048576 < len
  · clear h
    have hlen' : (1048576 : Int) < (len : Int) := by omega
    go_enter Tryd.func4, Tryd.ntmps4
    go_wp2_with fail
    go_ret
    exact ⟨rfl, Below.refl _ _⟩
  have hlen' : ¬ (1048576 : Int) < (len : Int) := by omega
  go_enter Tryd.func4, Tryd.ntmps4
  go_wp2_with fail
  refine (drawFracMake_any s len cap w h).mono ?_
  rintro e W0 ⟨x, y, z, rfl, ⟨x0, x1⟩, ⟨y0, y1⟩, ⟨z0, z1⟩, hb⟩
  have kaW0 : Acc w W0 := hb
  have hx : i64B x := by unfold i64B; omega
  have hy : i64B y := by unfold i64B; omega
  have hz : i64B z := by unfold i64B; omega
  have hx2 : i64B (2 * x) := by unfold i64B; omega
  have hy2 : i64B (2 * y) := by unfold i64B; omega
  have hz2 : i64B (2 * z) := by unfold i64B; omega
  clear hb h
  go_wp2_with fail
  cases ho : makeF x y z with
  | none =>
    have HO := Lib.hid ho
    clear ho
    refine (gave_none HO.out (implMake_any x y z hx hy hz _ (HL.out _ (by repeat' (first | assumption | exact Acc.refl _ | refine Acc.drew ?_ | refine Acc.alloc ?_ _ | refine Acc.setCell ?_ (by omega) _))))).mono ?_
    rintro e W1 ⟨rfl, hb⟩
    have kaW1 : Acc w W1 := by
      refine Acc.call ?_ hb
      (repeat' (first | assumption | exact Acc.refl _ | refine Acc.drew ?_ | refine Acc.drewN ?_ _ | refine Acc.alloc ?_ _ | refine Acc.setCell ?_ (by omega) _))
    clear hb
    go_wp2_with fail
    refine (gave_none HO.out (specMake_any x y z _)).mono ?_
    rintro e W2 ⟨rfl, hb⟩
    obtain ⟨c00, c01, c02⟩ := keep3 hb (b := W1.heap.size) (x := .int .i64 0) (y := .int .i64 0) (z := .int .i64 0) (by go_simp)
    have cl0 : W1.heap.size < W2.heap.size := World.block_lt_of_cell? _ _ c00
    have kaW2 : Acc w W2 := by
      refine Acc.call ?_ hb
      (repeat' (first | assumption | exact Acc.refl _ | refine Acc.drew ?_ | refine Acc.drewN ?_ _ | refine Acc.alloc ?_ _ | refine Acc.setCell ?_ (by omega) _))
    clear hb
    go_wp2_with fail
    go_ret
    refine ⟨rfl, ?_⟩
    show Acc w _
    (repeat' (first | assumption | exact Acc.refl _ | refine Acc.drew ?_ | refine Acc.drewN ?_ _ | refine Acc.alloc ?_ _ | refine Acc.setCell ?_ (by omega) _))
  | some v =>
    obtain ⟨p, q, r⟩ := v
    have ok := make_ok ho
    obtain ⟨hp, hq, hr⟩ := okF_i64 ok
    have HO := Lib.hid ho
    have OK := Lib.hid ok
    cases hm2 : makeF (2 * x) (2 * y) (2 * z) with
    | none =>
      have HM := Lib.hid hm2
      clear ho ok hm2
      refine (gave_some HO.out (implMake_any x y z hx hy hz _ (HL.out _ (by repeat' (first | assumption | exact Acc.refl _ | refine Acc.drew ?_ | refine Acc.alloc ?_ _ | refine Acc.setCell ?_ (by omega) _))))).mono ?_
      rintro e W1 ⟨rfl, hb⟩
      have kaW1 : Acc w W1 := by
        refine Acc.call ?_ hb
        (repeat' (first | assumption | exact Acc.refl _ | refine Acc.drew ?_ | refine Acc.drewN ?_ _ | refine Acc.alloc ?_ _ | refine Acc.setCell ?_ (by omega) _))
      clear hb
      go_wp2_with fail
      refine (gave_some HO.out (specMake_any x y z _)).mono ?_
      rintro e W2 ⟨rfl, hb⟩
      obtain ⟨c00, c01, c02⟩ := keep3 hb (b := W1.heap.size) (x := .int .i64 p) (y := .int .i64 q) (z := .int .i64 r) (by go_simp)
      have cl0 : W1.heap.size < W2.heap.size := World.block_lt_of_cell? _ _ c00
      have kaW2 : Acc w W2 := by
        refine Acc.call ?_ hb
        (repeat' (first | assumption | exact Acc.refl _ | refine Acc.drew ?_ | refine Acc.drewN ?_ _ | refine Acc.alloc ?_ _ | refine Acc.setCell ?_ (by omega) _))
      clear hb
      go_wp2_with fail
      refine (gave_none HM.out (implMake_any (2 * x) (2 * y) (2 * z) hx2 hy2 hz2 _ (HL.out _ (by repeat' (first | assumption | exact Acc.refl _ | refine Acc.drew ?_ | refine Acc.alloc ?_ _ | refine Acc.setCell ?_ (by omega) _))))).mono ?_
      rintro e W3 ⟨rfl, hb⟩
      obtain ⟨c00, c01, c02⟩ := keep3 hb (b := W1.heap.size) (x := .int .i64 p) (y := .int .i64 q) (z := .int .i64 r) (by go_simp)
      have cl0 : W1.heap.size < W3.heap.size := World.block_lt_of_cell? _ _ c00
      obtain ⟨c10, c11, c12⟩ := keep3 hb (b := W2.heap.size) (x := .int .i64 p) (y := .int .i64 q) (z := .int .i64 r) (by go_simp)
      have cl1 : W2.heap.size < W3.heap.size := World.block_lt_of_cell? _ _ c10
      have kaW3 : Acc w W3 := by
        refine Acc.call ?_ hb
        (repeat' (first | assumption | exact Acc.refl _ | refine Acc.drew ?_ | refine Acc.drewN ?_ _ | refine Acc.alloc ?_ _ | refine Acc.setCell ?_ (by omega) _))
      clear hb
      go_wp2_with fail
      refine (valid_at OK.out (implValid_any p q r hp hq hr _ (HL.out _ (by repeat' (first | assumption | exact Acc.refl _ | refine Acc.drew ?_ | refine Acc.alloc ?_ _ | refine Acc.setCell ?_ (by omega) _))))).mono ?_
      rintro e W4 ⟨rfl, hb⟩
      obtain ⟨c00, c01, c02⟩ := keep3 hb (b := W1.heap.size) (x := .int .i64 p) (y := .int .i64 q) (z := .int .i64 r) (by go_simp)
      have cl0 : W1.heap.size < W4.heap.size := World.block_lt_of_cell? _ _ c00
      obtain ⟨c10, c11, c12⟩ := keep3 hb (b := W2.heap.size) (x := .int .i64 p) (y := .int .i64 q) (z := .int .i64 r) (by go_simp)
      have cl1 : W2.heap.size < W4.heap.size := World.block_lt_of_cell? _ _ c10
      obtain ⟨c20, c21, c22⟩ := keep3 hb (b := W3.heap.size) (x := .int .i64 0) (y := .int .i64 0) (z := .int .i64 0) (by go_simp)
      have cl2 : W3.heap.size < W4.heap.size := World.block_lt_of_cell? _ _ c20
      have kaW4 : Acc w W4 := by
        refine Acc.call ?_ hb
        (repeat' (first | assumption | exact Acc.refl _ | refine Acc.drew ?_ | refine Acc.drewN ?_ _ | refine Acc.alloc ?_ _ | refine Acc.setCell ?_ (by omega) _))
      clear hb
      go_wp2_with fail
      go_ret
      refine ⟨rfl, ?_⟩
      show Acc w _
      (repeat' (first | assumption | exact Acc.refl _ | refine Acc.drew ?_ | refine Acc.drewN ?_ _ | refine Acc.alloc ?_ _ | refine Acc.setCell ?_ (by omega) _))
    | some o =>
      obtain rfl := make_twice ho hm2
      have HM := Lib.hid hm2
      clear ho ok hm2
      refine (gave_some HO.out (implMake_any x y z hx hy hz _ (HL.out _ (by repeat' (first | assumption | exact Acc.refl _ | refine Acc.drew ?_ | refine Acc.alloc ?_ _ | refine Acc.setCell ?_ (by omega) _))))).mono ?_
      rintro e W1 ⟨rfl, hb⟩
      have kaW1 : Acc w W1 := by
        refine Acc.call ?_ hb
        (repeat' (first | assumption | exact Acc.refl _ | refine Acc.drew ?_ | refine Acc.drewN ?_ _ | refine Acc.alloc ?_ _ | refine Acc.setCell ?_ (by omega) _))
      clear hb
      go_wp2_with fail
      refine (gave_some HO.out (specMake_any x y z _)).mono ?_
      rintro e W2 ⟨rfl, hb⟩
      obtain ⟨c00, c01, c02⟩ := keep3 hb (b := W1.heap.size) (x := .int .i64 p) (y := .int .i64 q) (z := .int .i64 r) (by go_simp)
      have cl0 : W1.heap.size < W2.heap.size := World.block_lt_of_cell? _ _ c00
      have kaW2 : Acc w W2 := by
        refine Acc.call ?_ hb
        (repeat' (first | assumption | exact Acc.refl _ | refine Acc.drew ?_ | refine Acc.drewN ?_ _ | refine Acc.alloc ?_ _ | refine Acc.setCell ?_ (by omega) _))
      clear hb
      go_wp2_with fail
      refine (gave_some HM.out (implMake_any (2 * x) (2 * y) (2 * z) hx2 hy2 hz2 _ (HL.out _ (by repeat' (first | assumption | exact Acc.refl _ | refine Acc.drew ?_ | refine Acc.alloc ?_ _ | refine Acc.setCell ?_ (by omega) _))))).mono ?_
      rintro e W3 ⟨rfl, hb⟩
      obtain ⟨c00, c01, c02⟩ := keep3 hb (b := W1.heap.size) (x := .int .i64 p) (y := .int .i64 q) (z := .int .i64 r) (by go_simp)
      have cl0 : W1.heap.size < W3.heap.size := World.block_lt_of_cell? _ _ c00
      obtain ⟨c10, c11, c12⟩ := keep3 hb (b := W2.heap.size) (x := .int .i64 p) (y := .int .i64 q) (z := .int .i64 r) (by go_simp)
      have cl1 : W2.heap.size < W3.heap.size := World.block_lt_of_cell? _ _ c10
      have kaW3 : Acc w W3 := by
        refine Acc.call ?_ hb
        (repeat' (first | assumption | exact Acc.refl _ | refine Acc.drew ?_ | refine Acc.drewN ?_ _ | refine Acc.alloc ?_ _ | refine Acc.setCell ?_ (by omega) _))
      clear hb
      go_wp2_with fail
      refine (valid_at OK.out (implValid_any p q r hp hq hr _ (HL.out _ (by repeat' (first | assumption | exact Acc.refl _ | refine Acc.drew ?_ | refine Acc.alloc ?_ _ | refine Acc.setCell ?_ (by omega) _))))).mono ?_
      rintro e W4 ⟨rfl, hb⟩
      obtain ⟨c00, c01, c02⟩ := keep3 hb (b := W1.heap.size) (x := .int .i64 p) (y := .int .i64 q) (z := .int .i64 r) (by go_simp)
      have cl0 : W1.heap.size < W4.heap.size := World.block_lt_of_cell? _ _ c00
      obtain ⟨c10, c11, c12⟩ := keep3 hb (b := W2.heap.size) (x := .int .i64 p) (y := .int .i64 q) (z := .int .i64 r) (by go_simp)
      have cl1 : W2.heap.size < W4.heap.size := World.block_lt_of_cell? _ _ c10
      obtain ⟨c20, c21, c22⟩ := keep3 hb (b := W3.heap.size) (x := .int .i64 p) (y := .int .i64 q) (z := .int .i64 r) (by go_simp)
      have cl2 : W3.heap.size < W4.heap.size := World.block_lt_of_cell? _ _ c20
      have kaW4 : Acc w W4 := by
        refine Acc.call ?_ hb
        (repeat' (first | assumption | exact Acc.refl _ | refine Acc.drew ?_ | refine Acc.drewN ?_ _ | refine Acc.alloc ?_ _ | refine Acc.setCell ?_ (by omega) _))
      clear hb
      go_wp2_with fail
      go_ret
      refine ⟨rfl, ?_⟩
      show Acc w _
      (repeat' (first | assumption | exact Acc.refl _ | refine Acc.drew ?_ | refine Acc.drewN ?_ _ | refine Acc.alloc ?_ _ | refine Acc.setCell ?_ (by omega) _))
end Go.Proofs.YtpbibfefcepeiaaDoor
