/-
  The model: the single number of a fraction.
-/
import Derived.Test.YtbihlkienhbapaaDoorSpecWide
import Derived.Test.YtbihlkienhbapaaDoorConvRun
namespace Go.Proofs.YtbihlkienhbapaaDoor
open Go.ChangeShapes Go.WideShapes Go.ChangeAt Go.RowKit
set_option linter.unusedVariables false

/-- A part of a fraction as a single float. -/
def singleOf (n d : Int) : Nat := (floatToFloatBits .f64 (fop .quo (floatOfInt .f64 n) (floatOfInt .f64 d)) .f32).getD 0
theorem single_told {n d : Int} (hn : -2000000000 ≤ n ∧ n ≤ 2000000000) (hd : 1 ≤ d ∧ d ≤ 2000000000) {p : Nat} (hp : Same p (fop .quo (floatOfInt .f64 n) (floatOfInt .f64 d))) : floatToFloatBits .f64 p .f32 = some (singleOf n d) := by
  obtain ⟨P, hP, s, m, q, e, hb⟩ := quo_small (n := n) (d := d) (by omega) (by omega)
  obtain ⟨r, hr⟩ := narrow_small e hb
  have e1 : fop .quo (floatOfInt .f64 n) (floatOfInt .f64 d) = P := by unfold fop; rw [hP]; rfl
  have e2 : p = P := by
    rw [e1] at hp
    rcases hp with h | ⟨_, h⟩
    · exact h
    · rw [fbits_not_nan hP] at h; cases h
  unfold singleOf
  rw [e1, e2, hr]; rfl

def Singled (x y z : Int) (w : World) (e : Ending) (w' : World) : Prop :=
  (okF x y z = true → e = .returned (.tuple #[.complex .f32 (singleOf x z) (singleOf y z), .bool true])) ∧
  (okF x y z = false → e = .returned (.tuple #[.complex .f32 0 0, .bool false])) ∧ Below w.heap.size w w'

set_option maxHeartbeats 1000000 in
theorem specSingle_any (x y z : Int) (w : World) :
    Calls Tryd.prog 40 #[.agg #[.int .i64 x, .int .i64 y, .int .i64 z]] w (Singled x y z w) := by
  cases ho : okF x y z with
  | false =>
    have HO := Lib.hid ho
    clear ho
    go_enter Tryd.func40, Tryd.ntmps40
    go_wp2_with fail
    refine (specWide_any x y z _).mono ?_
    rintro e w2 ⟨-, h2, hb⟩
    obtain rfl := h2 HO.out
    clear h2
    obtain ⟨q00, q01, q02⟩ := keep3 hb (b := w.heap.size) (x := .int .i64 x) (y := .int .i64 y) (z := .int .i64 z) (by go_simp)
    have kb0 : w.heap.size < w2.heap.size := World.block_lt_of_cell? _ _ q00
    have haw2 : Acc w w2 := by
      refine Acc.call ?_ hb
      (repeat' (first | assumption | exact Acc.refl _ | refine Acc.drew ?_ | refine Acc.alloc ?_ _ | refine Acc.setCell ?_ (by omega) _))
    clear hb
    go_wp2_with fail
    go_ret2
    exact ⟨fun h => (by rw [HO.out] at h; cases h), fun _ => rfl, haw2⟩
  | true =>
    obtain ⟨bx, by', bz⟩ := okF_bd ho
    have HO := Lib.hid ho
    clear ho
    go_enter Tryd.func40, Tryd.ntmps40
    go_wp2_with fail
    refine (specWide_any x y z _).mono ?_
    rintro e w2 ⟨h2, -, hb⟩
    obtain ⟨p, q, rfl, s1, s2⟩ := h2 HO.out
    have c1 := single_told bx bz s1
    have c2 := single_told by' bz s2
    have R := Lib.hid fun w => run_convert_complex (P := Tryd.prog) w 44 48 .f64 .f32 p q (singleOf x z) (singleOf y z) (by rw [Tryd.underlying44]; rfl) Tryd.underlying48 (by simp [cConvBits, c1, c2])
    clear h2 s1 s2 c1 c2 bx by' bz
    obtain ⟨q00, q01, q02⟩ := keep3 hb (b := w.heap.size) (x := .int .i64 x) (y := .int .i64 y) (z := .int .i64 z) (by go_simp)
    have kb0 : w.heap.size < w2.heap.size := World.block_lt_of_cell? _ _ q00
    have haw2 : Acc w w2 := by
      refine Acc.call ?_ hb
      (repeat' (first | assumption | exact Acc.refl _ | refine Acc.drew ?_ | refine Acc.alloc ?_ _ | refine Acc.setCell ?_ (by omega) _))
    clear hb
    go_wp2_with (simp only [R.out])
    go_ret2
    exact ⟨fun _ => rfl, fun h => (by rw [HO.out] at h; cases h), haw2⟩

end Go.Proofs.YtbihlkienhbapaaDoor
