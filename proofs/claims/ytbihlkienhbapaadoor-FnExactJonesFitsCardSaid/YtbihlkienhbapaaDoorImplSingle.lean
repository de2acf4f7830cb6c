/-
  The program's FracSingle.
-/
import Derived.Test.YtbihlkienhbapaaDoorImplRest
import Derived.Test.YtbihlkienhbapaaDoorSpecSingle
namespace Go.Proofs.YtbihlkienhbapaaDoor
open Go.ChangeShapes Go.WideShapes Go.ChangeAt Go.RowKit
set_option linter.unusedVariables false

/-- The single number and no error, or 0 and an error. -/
def ErredS (x y z : Int) (w : World) (e : Ending) (w' : World) : Prop :=
  (okF x y z = true → e = .returned (.tuple #[.complex .f32 (singleOf x z) (singleOf y z), .nilIface])) ∧
  (okF x y z = false → ∃ s, e = .returned (.tuple #[.complex .f32 0 0, .iface 109 (.agg #[.string s])])) ∧ Below w.heap.size w w'
set_option maxHeartbeats 1000000 in
theorem msingle_any (x y z : Int) (w : World) (hx : i64B x) (hy : i64B y) (hz : i64B z) :
    Calls Tryd.prog 74 #[.agg #[.int .i64 x, .int .i64 y, .int .i64 z]] w (ErredS x y z w) := by
  cases hk : okF x y z with
  | false =>
    have HK := Lib.hid hk
    clear hk
    have c0 : floatToFloatBits .f64 0 .f32 = some 0 := by decide +kernel
    have R := Lib.hid fun w => run_convert_complex (P := Tryd.prog) w 44 48 .f64 .f32 0 0 0 0 (by rw [Tryd.underlying44]; rfl) Tryd.underlying48 (by simp [cConvBits, c0])
    clear c0
    go_enter Tryd.func74, Tryd.ntmps74
    go_wp2_with fail
    refine (mwide_any x y z _ hx hy hz).mono ?_
    rintro e W1 ⟨-, h2, hb⟩
    obtain ⟨s, rfl⟩ := h2 HK.out
    clear h2
    have ka : Acc w W1 := by
      refine Acc.call ?_ hb
      (repeat' (first | (with_reducible first | assumption | exact Acc.refl _ | refine Acc.drew ?_ | refine Acc.drewN ?_ _ | refine Acc.alloc ?_ _ | refine Acc.setCell ?_ ?_ _) | omega))
    clear hb
    go_wp2_with (simp only [R.out])
    go_ret2
    exact ⟨fun h => (by rw [HK.out] at h; cases h), fun _ => ⟨_, rfl⟩, ka⟩
  | true =>
    obtain ⟨bx, by', bz⟩ := okF_bd hk
    have HK := Lib.hid hk
    clear hk
    go_enter Tryd.func74, Tryd.ntmps74
    go_wp2_with fail
    refine (mwide_any x y z _ hx hy hz).mono ?_
    rintro e W1 ⟨h2, -, hb⟩
    obtain ⟨p, q, rfl, s1, s2⟩ := h2 HK.out
    have c1 := single_told bx bz s1
    have c2 := single_told by' bz s2
    have R := Lib.hid fun w => run_convert_complex (P := Tryd.prog) w 44 48 .f64 .f32 p q (singleOf x z) (singleOf y z) (by rw [Tryd.underlying44]; rfl) Tryd.underlying48 (by simp [cConvBits, c1, c2])
    have ka : Acc w W1 := by
      refine Acc.call ?_ hb
      (repeat' (first | (with_reducible first | assumption | exact Acc.refl _ | refine Acc.drew ?_ | refine Acc.drewN ?_ _ | refine Acc.alloc ?_ _ | refine Acc.setCell ?_ ?_ _) | omega))
    clear h2 s1 s2 c1 c2 bx by' bz hb
    go_wp2_with (simp only [R.out])
    go_ret2
    exact ⟨fun _ => rfl, fun h => (by rw [HK.out] at h; cases h), ka⟩
set_option maxHeartbeats 1000000 in
theorem toldSingle_ok (p q : Nat) (w : World) : Calls Tryd.prog 73 #[.complex .f32 p q, .nilIface] w fun e w' => e = .returned (.tuple #[.complex .f32 p q, .bool true]) ∧ Below w.heap.size w w' := by
  go_enter Tryd.func73, Tryd.ntmps73
  go_wp2_with fail
  refine (isNone_nil _).mono ?_
  rintro e w1 ⟨rfl, hb⟩
  go_wp2_with fail
  go_ret2
  exact ⟨rfl, hb⟩
set_option maxHeartbeats 1000000 in
theorem toldSingle_err (p q : Nat) (s : ByteArray) (w : World) (hl : Laid w) : Calls Tryd.prog 73 #[.complex .f32 p q, .iface 109 (.agg #[.string s])] w fun e w' => e = .returned (.tuple #[.complex .f32 0 0, .bool false]) ∧ Below w.heap.size w w' := by
  go_enter Tryd.func73, Tryd.ntmps73
  go_wp2_with fail
  refine (isNone_hit s _ hl).mono ?_
  rintro e w1 ⟨rfl, hb⟩
  go_wp2_with fail
  go_ret2
  exact ⟨rfl, hb⟩
set_option maxHeartbeats 2000000 in
theorem implSingle_any (x y z : Int) (hx : i64B x) (hy : i64B y) (hz : i64B z) (w : World) (hl : Laid w) :
    Calls Tryd.prog 41 #[.agg #[.int .i64 x, .int .i64 y, .int .i64 z]] w (Singled x y z w) := by
  have HL := Lib.hid fun W (k : Acc w W) => hl.acc k
  clear hl
  cases ho : okF x y z with
  | false =>
    have HO := Lib.hid ho
    clear ho
    go_enter Tryd.func41, Tryd.ntmps41
    go_wp2_with fail
    refine (msingle_any x y z _ hx hy hz).mono ?_
    rintro e w2 ⟨-, h2, hb⟩
    obtain ⟨s, rfl⟩ := h2 HO.out
    clear h2
    have ha : Acc w w2 := by
      refine Acc.call ?_ hb
      (repeat' (first | (with_reducible first | assumption | exact Acc.refl _ | refine Acc.drew ?_ | refine Acc.drewN ?_ _ | refine Acc.alloc ?_ _ | refine Acc.setCell ?_ ?_ _) | omega))
    clear hb
    go_wp2_with fail
    refine (toldSingle_err _ _ s _ (HL.out _ (by repeat' (first | (with_reducible first | assumption | exact Acc.refl _ | refine Acc.drew ?_ | refine Acc.drewN ?_ _ | refine Acc.alloc ?_ _ | refine Acc.setCell ?_ ?_ _) | omega)))).mono ?_
    rintro e w3 ⟨rfl, hb⟩
    have ha3 : Acc w w3 := Acc.call ha hb
    clear hb
    go_wp2_with fail
    go_ret2
    exact ⟨fun h => (by rw [HO.out] at h; cases h), fun _ => rfl, ha3⟩
  | true =>
    have HO := Lib.hid ho
    clear ho
    go_enter Tryd.func41, Tryd.ntmps41
    go_wp2_with fail
    refine (msingle_any x y z _ hx hy hz).mono ?_
    rintro e w2 ⟨h2, -, hb⟩
    obtain rfl := h2 HO.out
    clear h2
    have ha : Acc w w2 := by
      refine Acc.call ?_ hb
      (repeat' (first | (with_reducible first | assumption | exact Acc.refl _ | refine Acc.drew ?_ | refine Acc.drewN ?_ _ | refine Acc.alloc ?_ _ | refine Acc.setCell ?_ ?_ _) | omega))
    clear hb
    go_wp2_with fail
    refine (toldSingle_ok _ _ _).mono ?_
    rintro e w3 ⟨rfl, hb⟩
    have ha3 : Acc w w3 := Acc.call ha hb
    clear hb
    go_wp2_with fail
    go_ret2
    exact ⟨fun _ => rfl, fun h => (by rw [HO.out] at h; cases h), ha3⟩
end Go.Proofs.YtbihlkienhbapaaDoor
