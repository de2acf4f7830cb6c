/-
  The exact law of FracWide, out of both contracts.
-/
import Derived.Test.YtmhoppjekiiheaaDoorLawTo
import Derived.Test.YtmhoppjekiiheaaDoorSpecWide
namespace Go.Proofs.YtmhoppjekiiheaaDoor
open Go.ChangeShapes Go.WideShapes Go.ChangeAt Go.RowKit
set_option linter.unusedVariables false

theorem cmp_told {x r : Nat} (h : floatBits .quo .f64 one64 x = some r) (P : Program) (t : TypeId) (w : World) :
    (binOp .quo t (.float .f64 4607182418800017408) (.float .f64 x)).run P w = .ok (.float .f64 r) w := run_told h t w

set_option maxHeartbeats 1000000 in
theorem sameFloat_any (x y : Nat) (w : World) (h : Same x y) :
    Calls Tryd.prog 66 #[.float .f64 x, .float .f64 y] w fun e w' => e = .returned (.bool true) ∧ w = w' := by
  cases hn : isN x with
  | true =>
    have hy : isN y = true := h.isN_eq ▸ hn
    have ox := order_nan_left hn
    have oy := order_nan_left hy
    clear hn hy h
    go_enter Tryd.func66, Tryd.ntmps66
    go_wp2
    go_ret
    exact ⟨rfl, rfl⟩
  | false =>
    have e : x = y := by
      rcases h with e | ⟨a, b⟩
      · exact e
      · rw [hn] at a; cases a
    subst e
    obtain ⟨r, hr, hrr⟩ := one_over hn
    have ox := order_refl hn
    have HR := Lib.hid (cmp_told hr Tryd.prog)
    clear hn h hr hrr
    cases hz : (FloatKind.f64.format.order x 0 == some .eq) with
    | true =>
      go_enter Tryd.func66, Tryd.ntmps66
      go_wp2_with (simp only [HR.out])
      go_ret
      exact ⟨rfl, rfl⟩
    | false =>
      go_enter Tryd.func66, Tryd.ntmps66
      go_wp2
      go_ret
      exact ⟨rfl, rfl⟩

set_option maxHeartbeats 1000000 in
theorem sameComplex_any (a b c d : Nat) (w : World) (h : Same a c) (k : Same b d) :
    Calls Tryd.prog 39 #[.complex .f64 a b, .complex .f64 c d] w fun e w' => e = .returned (.bool true) ∧ w = w' := by
  have H := Lib.hid h
  have K := Lib.hid k
  clear h k
  go_enter Tryd.func39, Tryd.ntmps39
  go_wp2_with fail
  refine (sameFloat_any a c w H.out).mono ?_
  rintro e w1 ⟨rfl, rfl⟩
  go_wp2_with fail
  refine (sameFloat_any b d w K.out).mono ?_
  rintro e w1 ⟨rfl, rfl⟩
  go_wp2_with fail
  go_ret
  exact ⟨rfl, rfl⟩

set_option maxHeartbeats 2000000 in
theorem exactFracWide (x y z : Int)
    (hs : ∀ w, Calls Tryd.prog 17 #[.agg #[.int .i64 x, .int .i64 y, .int .i64 z]] w (Wided x y z w))
    (w : World) (hi : ∀ W, Acc w W → Calls Tryd.prog 16 #[.agg #[.int .i64 x, .int .i64 y, .int .i64 z]] W (Wided x y z W)) :
    Calls Tryd.prog 13 #[.agg #[.int .i64 x, .int .i64 y, .int .i64 z]] w (Fine w) := by
  have HS := Lib.hid hs
  have HI := Lib.hid hi
  clear hs hi
  cases ho : okF x y z with
  | false =>
    have HO := Lib.hid ho
    clear ho
    go_enter Tryd.func13, Tryd.ntmps13
    go_wp2_with fail
    refine (toFrac_any x y z _).mono ?_
    rintro e w1 ⟨rfl, hb⟩
    obtain ⟨q00, q01, q02⟩ := keep3 hb (b := w.heap.size) (x := .int .i64 x) (y := .int .i64 y) (z := .int .i64 z) (by go_simp)
    have kb0 : w.heap.size < w1.heap.size := World.block_lt_of_cell? _ _ q00
    have haw1 : Acc w w1 := by
      refine Acc.call ?_ hb
      (repeat' (first | assumption | exact Acc.refl _ | refine Acc.drew ?_ | refine Acc.alloc ?_ _ | refine Acc.setCell ?_ (by omega) _))
    clear hb
    go_wp2_with fail
    refine (HS.out _).mono ?_
    rintro e w2 ⟨-, h2, hb⟩
    obtain rfl := h2 HO.out
    clear h2
    obtain ⟨q00, q01, q02⟩ := keep3 hb (b := w.heap.size) (x := .int .i64 x) (y := .int .i64 y) (z := .int .i64 z) (by go_simp)
    have kb0 : w.heap.size < w2.heap.size := World.block_lt_of_cell? _ _ q00
    have haw2 : Acc w w2 := by
      refine Acc.call ?_ hb
      (repeat' (first | assumption | exact Acc.refl _ | refine Acc.drew ?_ | refine Acc.alloc ?_ _ | refine Acc.setCell ?_ (by omega) _))
    clear hb
    go_wp2_with fail
    refine (toFrac_any x y z _).mono ?_
    rintro e w3 ⟨rfl, hb⟩
    obtain ⟨q00, q01, q02⟩ := keep3 hb (b := w.heap.size) (x := .int .i64 x) (y := .int .i64 y) (z := .int .i64 z) (by go_simp)
    have kb0 : w.heap.size < w3.heap.size := World.block_lt_of_cell? _ _ q00
    have haw3 : Acc w w3 := by
      refine Acc.call ?_ hb
      (repeat' (first | assumption | exact Acc.refl _ | refine Acc.drew ?_ | refine Acc.alloc ?_ _ | refine Acc.setCell ?_ (by omega) _))
    clear hb
    go_wp2_with fail
    refine (HI.out _ (by repeat' (first | assumption | exact Acc.refl _ | refine Acc.drew ?_ | refine Acc.alloc ?_ _ | refine Acc.setCell ?_ (by omega) _))).mono ?_
    rintro e w4 ⟨-, h4, hb⟩
    obtain rfl := h4 HO.out
    clear h4
    obtain ⟨q00, q01, q02⟩ := keep3 hb (b := w.heap.size) (x := .int .i64 x) (y := .int .i64 y) (z := .int .i64 z) (by go_simp)
    have kb0 : w.heap.size < w4.heap.size := World.block_lt_of_cell? _ _ q00
    have haw4 : Acc w w4 := by
      refine Acc.call ?_ hb
      (repeat' (first | assumption | exact Acc.refl _ | refine Acc.drew ?_ | refine Acc.alloc ?_ _ | refine Acc.setCell ?_ (by omega) _))
    clear hb
    go_wp2_with fail
    refine (sameComplex_any 0 0 0 0 _ (.refl _) (.refl _)).mono ?_
    rintro e w5 ⟨rfl, rfl⟩
    go_wp2_with fail
    go_ret
    exact ⟨rfl, haw4⟩
  | true =>
    have HO := Lib.hid ho
    clear ho
    go_enter Tryd.func13, Tryd.ntmps13
    go_wp2_with fail
    refine (toFrac_any x y z _).mono ?_
    rintro e w1 ⟨rfl, hb⟩
    obtain ⟨q00, q01, q02⟩ := keep3 hb (b := w.heap.size) (x := .int .i64 x) (y := .int .i64 y) (z := .int .i64 z) (by go_simp)
    have kb0 : w.heap.size < w1.heap.size := World.block_lt_of_cell? _ _ q00
    have haw1 : Acc w w1 := by
      refine Acc.call ?_ hb
      (repeat' (first | assumption | exact Acc.refl _ | refine Acc.drew ?_ | refine Acc.alloc ?_ _ | refine Acc.setCell ?_ (by omega) _))
    clear hb
    go_wp2_with fail
    refine (HS.out _).mono ?_
    rintro e w2 ⟨h2, -, hb⟩
    obtain ⟨p, q, rfl, s1, s2⟩ := h2 HO.out
    clear h2
    obtain ⟨q00, q01, q02⟩ := keep3 hb (b := w.heap.size) (x := .int .i64 x) (y := .int .i64 y) (z := .int .i64 z) (by go_simp)
    have kb0 : w.heap.size < w2.heap.size := World.block_lt_of_cell? _ _ q00
    have haw2 : Acc w w2 := by
      refine Acc.call ?_ hb
      (repeat' (first | assumption | exact Acc.refl _ | refine Acc.drew ?_ | refine Acc.alloc ?_ _ | refine Acc.setCell ?_ (by omega) _))
    clear hb
    go_wp2_with fail
    refine (toFrac_any x y z _).mono ?_
    rintro e w3 ⟨rfl, hb⟩
    obtain ⟨q00, q01, q02⟩ := keep3 hb (b := w.heap.size) (x := .int .i64 x) (y := .int .i64 y) (z := .int .i64 z) (by go_simp)
    have kb0 : w.heap.size < w3.heap.size := World.block_lt_of_cell? _ _ q00
    have haw3 : Acc w w3 := by
      refine Acc.call ?_ hb
      (repeat' (first | assumption | exact Acc.refl _ | refine Acc.drew ?_ | refine Acc.alloc ?_ _ | refine Acc.setCell ?_ (by omega) _))
    clear hb
    go_wp2_with fail
    refine (HI.out _ (by repeat' (first | assumption | exact Acc.refl _ | refine Acc.drew ?_ | refine Acc.alloc ?_ _ | refine Acc.setCell ?_ (by omega) _))).mono ?_
    rintro e w4 ⟨h4, -, hb⟩
    obtain ⟨p2, q2, rfl, s3, s4⟩ := h4 HO.out
    have t1 := Lib.hid (s3.trans s1.symm)
    have t2 := Lib.hid (s4.trans s2.symm)
    clear h4 s1 s2 s3 s4
    obtain ⟨q00, q01, q02⟩ := keep3 hb (b := w.heap.size) (x := .int .i64 x) (y := .int .i64 y) (z := .int .i64 z) (by go_simp)
    have kb0 : w.heap.size < w4.heap.size := World.block_lt_of_cell? _ _ q00
    have haw4 : Acc w w4 := by
      refine Acc.call ?_ hb
      (repeat' (first | assumption | exact Acc.refl _ | refine Acc.drew ?_ | refine Acc.alloc ?_ _ | refine Acc.setCell ?_ (by omega) _))
    clear hb
    go_wp2_with fail
    refine (sameComplex_any p2 q2 p q _ t1.out t2.out).mono ?_
    rintro e w5 ⟨rfl, rfl⟩
    go_wp2_with fail
    go_ret
    exact ⟨rfl, haw4⟩
end Go.Proofs.YtmhoppjekiiheaaDoor
