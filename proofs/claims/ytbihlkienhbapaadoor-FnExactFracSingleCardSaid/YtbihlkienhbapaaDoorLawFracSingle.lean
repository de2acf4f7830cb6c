/-
  The model: the single number of a fraction; the exact law of FracSingle, out of both contracts.
-/
import Derived.Test.YtbihlkienhbapaaDoorLawFracWide
import Derived.Test.YtbihlkienhbapaaDoorSpecSingle
namespace Go.Proofs.YtbihlkienhbapaaDoor
open Go.ChangeShapes Go.WideShapes Go.ChangeAt Go.RowKit
set_option linter.unusedVariables false

set_option maxHeartbeats 2000000 in
theorem exactFracSingle (x y z : Int)
    (hs : ∀ w, Calls Tryd.prog 40 #[.agg #[.int .i64 x, .int .i64 y, .int .i64 z]] w (Singled x y z w))
    (w : World) (hi : ∀ W, Acc w W → Calls Tryd.prog 41 #[.agg #[.int .i64 x, .int .i64 y, .int .i64 z]] W (Singled x y z W)) :
    Calls Tryd.prog 13 #[.agg #[.int .i64 x, .int .i64 y, .int .i64 z]] w (Fine w) := by
  obtain ⟨u, v, k, hu⟩ : ∃ u v k, ∀ e w w', Singled x y z w e w' → e = .returned (.tuple #[.complex .f32 u v, .bool k]) ∧ Below w.heap.size w w' := by
    cases ho : okF x y z with
    | false => exact ⟨0, 0, false, fun e w w' ⟨_, h, hb⟩ => ⟨h ho, hb⟩⟩
    | true => exact ⟨_, _, true, fun e w w' ⟨h, _, hb⟩ => ⟨h ho, hb⟩⟩
  have HS := Lib.hid fun w => (hs w).mono fun e w' h => hu e w w' h
  have HI := Lib.hid fun W (hW : Acc w W) => (hi W hW).mono fun e w' h => hu e W w' h
  clear hs hi hu
  go_enter Tryd.func13, Tryd.ntmps13
  go_wp2_with fail
  refine (toFrac_any x y z _).mono ?_
  rintro e w1 ⟨rfl, hb⟩
  obtain ⟨q00, q01, q02⟩ := keep3 hb (b := w.heap.size) (x := .int .i64 x) (y := .int .i64 y) (z := .int .i64 z) (by go_simp)
  have kb0 : w.heap.size < w1.heap.size := World.block_lt_of_cell? _ _ q00
  have haw1 : Acc w w1 := by
    refine Acc.call ?_ hb
    (repeat' (first | assumption | exact Acc.refl _ | refine Acc.drew ?_ | refine Acc.alloc ?_ _ | refine Acc.setCell ?_ (by omega) _))
  clear hb
  go_wp2_with fail
  refine (HS.out _).mono ?_
  rintro e w2 ⟨rfl, hb⟩
  obtain ⟨q00, q01, q02⟩ := keep3 hb (b := w.heap.size) (x := .int .i64 x) (y := .int .i64 y) (z := .int .i64 z) (by go_simp)
  have kb0 : w.heap.size < w2.heap.size := World.block_lt_of_cell? _ _ q00
  have haw2 : Acc w w2 := by
    refine Acc.call ?_ hb
    (repeat' (first | assumption | exact Acc.refl _ | refine Acc.drew ?_ | refine Acc.alloc ?_ _ | refine Acc.setCell ?_ (by omega) _))
  clear hb
  go_wp2_with fail
  refine (toFrac_any x y z _).mono ?_
  rintro e w3 ⟨rfl, hb⟩
  obtain ⟨q00, q01, q02⟩ := keep3 hb (b := w.heap.size) (x := .int .i64 x) (y := .int .i64 y) (z := .int .i64 z) (by go_simp)
  have kb0 : w.heap.size < w3.heap.size := World.block_lt_of_cell? _ _ q00
  have haw3 : Acc w w3 := by
    refine Acc.call ?_ hb
    (repeat' (first | assumption | exact Acc.refl _ | refine Acc.drew ?_ | refine Acc.alloc ?_ _ | refine Acc.setCell ?_ (by omega) _))
  clear hb
  go_wp2_with fail
  refine (HI.out _ (by repeat' (first | assumption | exact Acc.refl _ | refine Acc.drew ?_ | refine Acc.alloc ?_ _ | refine Acc.setCell ?_ (by omega) _))).mono ?_
  rintro e w4 ⟨rfl, hb⟩
  obtain ⟨q00, q01, q02⟩ := keep3 hb (b := w.heap.size) (x := .int .i64 x) (y := .int .i64 y) (z := .int .i64 z) (by go_simp)
  have kb0 : w.heap.size < w4.heap.size := World.block_lt_of_cell? _ _ q00
  have haw4 : Acc w w4 := by
    refine Acc.call ?_ hb
    (repeat' (first | assumption | exact Acc.refl _ | refine Acc.drew ?_ | refine Acc.alloc ?_ _ | refine Acc.setCell ?_ (by omega) _))
  clear hb
  obtain ⟨p, q, n, r1, c1, c2⟩ := run_cconv (P := Tryd.prog) (s := .f32) (k := .f64) (by decide) (widen_some u) (widen_some v) 48 44 (by rw [Tryd.underlying48]; rfl) Tryd.underlying44 w4
  obtain ⟨p2, q2, n2, r2, c3, c4⟩ := run_cconv (P := Tryd.prog) (s := .f32) (k := .f64) (by decide) (widen_some u) (widen_some v) 48 44 (by rw [Tryd.underlying48]; rfl) Tryd.underlying44 (w4.drewN n)
  have t1 := Lib.hid (conv_same c1 c3 rfl)
  have t2 := Lib.hid (conv_same c2 c4 rfl)
  have R1 := Lib.hid r1
  have R2 := Lib.hid r2
  clear r1 r2 c1 c2 c3 c4
  go_wp2_with (first | simp only [R1.out] | simp only [R2.out])
  refine (sameComplex_any p q p2 q2 _ t1.out t2.out).mono ?_
  rintro e w5 ⟨rfl, rfl⟩
  go_wp2_with fail
  go_ret
  exact ⟨rfl, Below.trans haw4 (bare_drewN _ _ _)⟩
end Go.Proofs.YtbihlkienhbapaaDoor
