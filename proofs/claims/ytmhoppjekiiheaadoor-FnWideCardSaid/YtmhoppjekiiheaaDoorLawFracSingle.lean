/-
  The model: the single number of a fraction; the exact law of FracSingle, out of both contracts.
-/
import Derived.Test.YtmhoppjekiiheaaDoorLawFracWide
import Derived.Test.YtmhoppjekiiheaaDoorConvRun
namespace Go.Proofs.YtmhoppjekiiheaaDoor
open Go.ChangeShapes Go.WideShapes Go.ChangeAt Go.RowKit
set_option linter.unusedVariables false

/-- A part of a fraction as a single float. -/
def singleOf (n d : Int) : Nat := (floatToFloatBits .f64 (fop .quo (floatOfInt .f64 n) (floatOfInt .f64 d)) .f32).getD 0
theorem single_told {n d : Int} (hn : -2000000000 ≤ n ∧ n ≤ 2000000000) (hd : 1 ≤ d ∧ d ≤ 2000000000) {p : Nat} (hp : Same p (fop .quo (floatOfInt .f64 n) (floatOfInt .f64 d))) : floatToFloatBits .f64 p .f32 = some (singleOf n d) := by
  obtain ⟨P, hP, s, m, q, e, hb⟩ := quo_small (n := n) (d := d) (by omega) (by omega)
  obtain ⟨r, hr⟩ := narrow_small e hb
  have e1 : fop .quo (floatOfInt .f64 n) (floatOfInt .f64 d) = P := by unfold fop; rw [hP]; rfl
  have e2 : p = P := by
    rw [e1] at hp
    rcases hp with h | ⟨_, h⟩
    · exact h
    · rw [fbits_not_nan hP] at h; cases h
  unfold singleOf
  rw [e1, e2, hr]; rfl

def Singled (x y z : Int) (w : World) (e : Ending) (w' : World) : Prop :=
  (okF x y z = true → e = .returned (.tuple #[.complex .f32 (singleOf x z) (singleOf y z), .bool true])) ∧
  (okF x y z = false → e = .returned (.tuple #[.complex .f32 0 0, .bool false])) ∧ Below w.heap.size w w'

set_option maxHeartbeats 1000000 in
theorem specSingle_any (x y z : Int) (w : World) :
    Calls Tryd.prog 40 #[.agg #[.int .i64 x, .int .i64 y, .int .i64 z]] w (Singled x y z w) := by
  cases ho : okF x y z with
  | false =>
    have HO := Lib.hid ho
    clear ho
    go_enter Tryd.func40, Tryd.ntmps40
    go_wp2_with fail
    refine (specWide_any x y z _).mono ?_
    rintro e w2 ⟨-, h2, hb⟩
    obtain rfl := h2 HO.out
    clear h2
    obtain ⟨q00, q01, q02⟩ := keep3 hb (b := w.heap.size) (x := .int .i64 x) (y := .int .i64 y) (z := .int .i64 z) (by go_simp)
    have kb0 : w.heap.size < w2.heap.size := World.block_lt_of_cell? _ _ q00
    have haw2 : Acc w w2 := by
      refine Acc.call ?_ hb
      (repeat' (first | assumption | exact Acc.refl _ | refine Acc.drew ?_ | refine Acc.alloc ?_ _ | refine Acc.setCell ?_ (by omega) _))
    clear hb
    go_wp2_with fail
    go_ret2
    exact ⟨fun h => (by rw [HO.out] at h; cases h), fun _ => rfl, haw2⟩
  | true =>
    obtain ⟨bx, by', bz⟩ := okF_bd ho
    have HO := Lib.hid ho
    clear ho
    go_enter Tryd.func40, Tryd.ntmps40
    go_wp2_with fail
    refine (specWide_any x y z _).mono ?_
    rintro e w2 ⟨h2, -, hb⟩
    obtain ⟨p, q, rfl, s1, s2⟩ := h2 HO.out
    have c1 := single_told bx bz s1
    have c2 := single_told by' bz s2
    have R := Lib.hid fun w => run_convert_complex (P := Tryd.prog) w 26 45 .f64 .f32 p q (singleOf x z) (singleOf y z) (by rw [Tryd.underlying26]; rfl) Tryd.underlying45 (by simp [cConvBits, c1, c2])
    clear h2 s1 s2 c1 c2 bx by' bz
    obtain ⟨q00, q01, q02⟩ := keep3 hb (b := w.heap.size) (x := .int .i64 x) (y := .int .i64 y) (z := .int .i64 z) (by go_simp)
    have kb0 : w.heap.size < w2.heap.size := World.block_lt_of_cell? _ _ q00
    have haw2 : Acc w w2 := by
      refine Acc.call ?_ hb
      (repeat' (first | assumption | exact Acc.refl _ | refine Acc.drew ?_ | refine Acc.alloc ?_ _ | refine Acc.setCell ?_ (by omega) _))
    clear hb
    go_wp2_with (simp only [R.out])
    go_ret2
    exact ⟨fun _ => rfl, fun h => (by rw [HO.out] at h; cases h), haw2⟩

set_option maxHeartbeats 2000000 in
theorem exactFracSingle (x y z : Int)
    (hs : ∀ w, Calls Tryd.prog 40 #[.agg #[.int .i64 x, .int .i64 y, .int .i64 z]] w (Singled x y z w))
    (w : World) (hi : ∀ W, Acc w W → Calls Tryd.prog 41 #[.agg #[.int .i64 x, .int .i64 y, .int .i64 z]] W (Singled x y z W)) :
    Calls Tryd.prog 14 #[.agg #[.int .i64 x, .int .i64 y, .int .i64 z]] w (Fine w) := by
  obtain ⟨u, v, k, hu⟩ : ∃ u v k, ∀ e w w', Singled x y z w e w' → e = .returned (.tuple #[.complex .f32 u v, .bool k]) ∧ Below w.heap.size w w' := by
    cases ho : okF x y z with
    | false => exact ⟨0, 0, false, fun e w w' ⟨_, h, hb⟩ => ⟨h ho, hb⟩⟩
    | true => exact ⟨_, _, true, fun e w w' ⟨h, _, hb⟩ => ⟨h ho, hb⟩⟩
  have HS := Lib.hid fun w => (hs w).mono fun e w' h => hu e w w' h
  have HI := Lib.hid fun W (hW : Acc w W) => (hi W hW).mono fun e w' h => hu e W w' h
  clear hs hi hu
  go_enter Tryd.func14, Tryd.ntmps14
  go_wp2_with fail
  refine (toFrac_any x y z _).mono ?_
  rintro e w1 ⟨rfl, hb⟩
  obtain ⟨q00, q01, q02⟩ := keep3 hb (b := w.heap.size) (x := .int .i64 x) (y := .int .i64 y) (z := .int .i64 z) (by go_simp)
  have kb0 : w.heap.size < w1.heap.size := World.block_lt_of_cell? _ _ q00
  have haw1 : Acc w w1 := by
    refine Acc.call ?_ hb
    (repeat' (first | assumption | exact Acc.refl _ | refine Acc.drew ?_ | refine Acc.alloc ?_ _ | refine Acc.setCell ?_ (by omega) _))
  clear hb
  go_wp2_with fail
  refine (HS.out _).mono ?_
  rintro e w2 ⟨rfl, hb⟩
  obtain ⟨q00, q01, q02⟩ := keep3 hb (b := w.heap.size) (x := .int .i64 x) (y := .int .i64 y) (z := .int .i64 z) (by go_simp)
  have kb0 : w.heap.size < w2.heap.size := World.block_lt_of_cell? _ _ q00
  have haw2 : Acc w w2 := by
    refine Acc.call ?_ hb
    (repeat' (first | assumption | exact Acc.refl _ | refine Acc.drew ?_ | refine Acc.alloc ?_ _ | refine Acc.setCell ?_ (by omega) _))
  clear hb
  go_wp2_with fail
  refine (toFrac_any x y z _).mono ?_
  rintro e w3 ⟨rfl, hb⟩
  obtain ⟨q00, q01, q02⟩ := keep3 hb (b := w.heap.size) (x := .int .i64 x) (y := .int .i64 y) (z := .int .i64 z) (by go_simp)
  have kb0 : w.heap.size < w3.heap.size := World.block_lt_of_cell? _ _ q00
  have haw3 : Acc w w3 := by
    refine Acc.call ?_ hb
    (repeat' (first | assumption | exact Acc.refl _ | refine Acc.drew ?_ | refine Acc.alloc ?_ _ | refine Acc.setCell ?_ (by omega) _))
  clear hb
  go_wp2_with fail
  refine (HI.out _ (by repeat' (first | assumption | exact Acc.refl _ | refine Acc.drew ?_ | refine Acc.alloc ?_ _ | refine Acc.setCell ?_ (by omega) _))).mono ?_
  rintro e w4 ⟨rfl, hb⟩
  obtain ⟨q00, q01, q02⟩ := keep3 hb (b := w.heap.size) (x := .int .i64 x) (y := .int .i64 y) (z := .int .i64 z) (by go_simp)
  have kb0 : w.heap.size < w4.heap.size := World.block_lt_of_cell? _ _ q00
  have haw4 : Acc w w4 := by
    refine Acc.call ?_ hb
    (repeat' (first | assumption | exact Acc.refl _ | refine Acc.drew ?_ | refine Acc.alloc ?_ _ | refine Acc.setCell ?_ (by omega) _))
  clear hb
  obtain ⟨p, q, n, r1, c1, c2⟩ := run_cconv (P := Tryd.prog) (s := .f32) (k := .f64) (by decide) (widen_some u) (widen_some v) 45 26 (by rw [Tryd.underlying45]; rfl) Tryd.underlying26 w4
  obtain ⟨p2, q2, n2, r2, c3, c4⟩ := run_cconv (P := Tryd.prog) (s := .f32) (k := .f64) (by decide) (widen_some u) (widen_some v) 45 26 (by rw [Tryd.underlying45]; rfl) Tryd.underlying26 (w4.drewN n)
  have t1 := Lib.hid (conv_same c1 c3 rfl)
  have t2 := Lib.hid (conv_same c2 c4 rfl)
  have R1 := Lib.hid r1
  have R2 := Lib.hid r2
  clear r1 r2 c1 c2 c3 c4
  go_wp2_with (first | simp only [R1.out] | simp only [R2.out])
  refine (sameComplex_any p q p2 q2 _ t1.out t2.out).mono ?_
  rintro e w5 ⟨rfl, rfl⟩
  go_wp2_with fail
  go_ret
  exact ⟨rfl, Below.trans haw4 (bare_drewN _ _ _)⟩
end Go.Proofs.YtmhoppjekiiheaaDoor
