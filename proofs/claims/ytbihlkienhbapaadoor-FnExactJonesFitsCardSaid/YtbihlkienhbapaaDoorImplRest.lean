/-
  The program's quotients, orders and wide numbers of fractions, with errors.
-/
import Derived.Test.YtbihlkienhbapaaDoorImplOps
import Derived.Test.YtbihlkienhbapaaDoorSpecWide
namespace Go.Proofs.YtbihlkienhbapaaDoor
open Go.ChangeShapes Go.WideShapes Go.ChangeAt Go.RowKit
set_option linter.unusedVariables false

theorem lowE_ok {x y z p q r : Int} (h : lowE x y z = some (p, q, r)) : okF p q r = true := by
  unfold lowE at h
  split at h
  · cases h
  · unfold lowF at h
    simp only at h
    split at h
    · rename_i hk
      simp only [Option.some.injEq, Prod.mk.injEq] at h
      obtain ⟨rfl, rfl, rfl⟩ := h
      exact hk
    · cases h
theorem okF_i64 {p q r : Int} (h : okF p q r = true) : i64B p ∧ i64B q ∧ i64B r := by
  have := okF_bd h
  unfold i64B
  omega
/-- An order and no error, or 0 and an error. -/
def ErredI (o : Option Int) (w : World) (e : Ending) (w' : World) : Prop :=
  (∀ n, o = some n → e = .returned (.tuple #[.int .i64 n, .nilIface])) ∧ (o = none → ∃ s, e = .returned (.tuple #[.int .i64 0, .iface 109 (.agg #[.string s])])) ∧ Below w.heap.size w w'
/-- The wide number and no error, or 0 and an error. -/
def ErredW (x y z : Int) (w : World) (e : Ending) (w' : World) : Prop :=
  (okF x y z = true → ∃ p q, e = .returned (.tuple #[.complex .f64 p q, .nilIface]) ∧ Same p (fop .quo (floatOfInt .f64 x) (floatOfInt .f64 z)) ∧ Same q (fop .quo (floatOfInt .f64 y) (floatOfInt .f64 z))) ∧
  (okF x y z = false → ∃ s, e = .returned (.tuple #[.complex .f64 0 0, .iface 109 (.agg #[.string s])])) ∧ Below w.heap.size w w'
set_option maxHeartbeats 1000000 in
theorem mwide_any (x y z : Int) (w : World) (hx : i64B x) (hy : i64B y) (hz : i64B z) :
    Calls Tryd.prog 79 #[.agg #[.int .i64 x, .int .i64 y, .int .i64 z]] w (ErredW x y z w) := by
  cases hk : okF x y z with
  | false =>
    have HK := Lib.hid hk
    clear hk
    go_enter Tryd.func79, Tryd.ntmps79
    go_wp2_with fail
    refine (check_any x y z _ hx hy hz).mono ?_
    rintro e w1 ⟨-, h1, hb⟩
    obtain ⟨s, rfl⟩ := h1 HK.out
    clear h1
    obtain ⟨q00, q01, q02⟩ := keep3 hb (b := w.heap.size) (x := .int .i64 x) (y := .int .i64 y) (z := .int .i64 z) (by go_simp)
    have kb0 : w.heap.size < w1.heap.size := World.block_lt_of_cell? _ _ q00
    have haw1 : Acc w w1 := by
      refine Acc.call ?_ hb
      (repeat' (first | assumption | exact Acc.refl _ | refine Acc.drew ?_ | refine Acc.alloc ?_ _ | refine Acc.setCell ?_ (by omega) _))
    clear hb
    go_wp2_with fail
    go_ret2
    exact ⟨fun h => (by rw [HK.out] at h; cases h), fun _ => ⟨_, rfl⟩, haw1⟩
  | true =>
    obtain ⟨⟨x0, x1⟩, ⟨y0, y1⟩, ⟨z0, z1⟩⟩ := okF_bd hk
    have HK := Lib.hid hk
    clear hk
    go_enter Tryd.func79, Tryd.ntmps79
    go_wp2_with fail
    refine (check_any x y z _ hx hy hz).mono ?_
    rintro e w1 ⟨h1, -, hb⟩
    obtain rfl := h1 HK.out
    clear h1
    obtain ⟨q00, q01, q02⟩ := keep3 hb (b := w.heap.size) (x := .int .i64 x) (y := .int .i64 y) (z := .int .i64 z) (by go_simp)
    have kb0 : w.heap.size < w1.heap.size := World.block_lt_of_cell? _ _ q00
    have haw1 : Acc w w1 := by
      refine Acc.call ?_ hb
      (repeat' (first | assumption | exact Acc.refl _ | refine Acc.drew ?_ | refine Acc.alloc ?_ _ | refine Acc.setCell ?_ (by omega) _))
    clear hb
    go_wp2_with (simp only [run_quo])
    go_ret2
    exact ⟨fun _ => ⟨_, _, rfl, fval_same .., fval_same ..⟩, fun h => (by rw [HK.out] at h; cases h), Below.trans haw1 (Bare.trans (fworld_bare _ _ _ _) (fworld_bare _ _ _ _) _)⟩
end Go.Proofs.YtbihlkienhbapaaDoor
