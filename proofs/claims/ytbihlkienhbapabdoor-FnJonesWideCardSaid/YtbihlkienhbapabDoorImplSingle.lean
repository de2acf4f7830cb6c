/-
  The program's FracSingle.
-/
import Derived.Test.YtbihlkienhbapabDoorImplRest
import Derived.Test.YtbihlkienhbapabDoorSpecSingle
namespace Go.Proofs.YtbihlkienhbapabDoor
open Go.ChangeShapes Go.WideShapes Go.ChangeAt Go.RowKit
set_option linter.unusedVariables false

/-- The single number and no error, or 0 and an error. -/
def ErredS (x y z : Int) (w : World) (e : Ending) (w' : World) : Prop :=
  (okF x y z = true → e = .returned (.tuple #[.complex .f32 (singleOf x z) (singleOf y z), .nilIface])) ∧
  (okF x y z = false → ∃ s, e = .returned (.tuple #[.complex .f32 0 0, .iface 104 (.agg #[.string s])])) ∧ Below w.heap.size w w'
set_option maxHeartbeats 1000000 in
theorem msingle_any (x y z : Int) (w : World) (hx : i64B x) (hy : i64B y) (hz : i64B z) :
    Calls Tryd.prog 103 #[.agg #[.int .i64 x, .int .i64 y, .int .i64 z]] w (ErredS x y z w) := by
  cases hk : okF x y z with
  | false =>
    have HK := Lib.hid hk
    clear hk
    have c0 : floatToFloatBits .f64 0 .f32 = some 0 := by decide +kernel
    have R := Lib.hid fun w => run_convert_complex (P := Tryd.prog) w 46 93 .f64 .f32 0 0 0 0 (by rw [Tryd.underlying46]; rfl) Tryd.underlying93 (by simp [cConvBits, c0])
    clear c0
    go_enter Tryd.func103, Tryd.ntmps103
    go_wp2_with fail
    refine (mwide_any x y z _ hx hy hz).mono ?_
    rintro e W1 ⟨-, h2, hb⟩
    obtain ⟨s, rfl⟩ := h2 HK.out
    clear h2
    have ka : Acc w W1 := by
      refine Acc.call ?_ hb
      (repeat' (first | (with_reducible first | assumption | exact Acc.refl _ | refine Acc.drew ?_ | refine Acc.drewN ?_ _ | refine Acc.alloc ?_ _ | refine Acc.setCell ?_ ?_ _) | omega))
    clear hb
    go_wp2_with (simp only [R.out])
    go_ret2
    exact ⟨fun h => (by rw [HK.out] at h; cases h), fun _ => ⟨_, rfl⟩, ka⟩
  | true =>
    obtain ⟨bx, by', bz⟩ := okF_bd hk
    have HK := Lib.hid hk
    clear hk
    go_enter Tryd.func103, Tryd.ntmps103
    go_wp2_with fail
    refine (mwide_any x y z _ hx hy hz).mono ?_
    rintro e W1 ⟨h2, -, hb⟩
    obtain ⟨p, q, rfl, s1, s2⟩ := h2 HK.out
    have c1 := single_told bx bz s1
    have c2 := single_told by' bz s2
    have R := Lib.hid fun w => run_convert_complex (P := Tryd.prog) w 46 93 .f64 .f32 p q (singleOf x z) (singleOf y z) (by rw [Tryd.underlying46]; rfl) Tryd.underlying93 (by simp [cConvBits, c1, c2])
    have ka : Acc w W1 := by
      refine Acc.call ?_ hb
      (repeat' (first | (with_reducible first | assumption | exact Acc.refl _ | refine Acc.drew ?_ | refine Acc.drewN ?_ _ | refine Acc.alloc ?_ _ | refine Acc.setCell ?_ ?_ _) | omega))
    clear h2 s1 s2 c1 c2 bx by' bz hb
    go_wp2_with (simp only [R.out])
    go_ret2
    exact ⟨fun _ => rfl, fun h => (by rw [HK.out] at h; cases h), ka⟩
end Go.Proofs.YtbihlkienhbapabDoor
