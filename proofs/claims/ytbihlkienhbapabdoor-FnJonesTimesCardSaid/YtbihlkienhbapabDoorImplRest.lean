/-
  The program's quotients, orders and wide numbers of fractions, with errors.
-/
import Derived.Test.YtbihlkienhbapabDoorImplOps
import Derived.Test.YtbihlkienhbapabDoorSpecWide
namespace Go.Proofs.YtbihlkienhbapabDoor
open Go.ChangeShapes Go.WideShapes Go.ChangeAt Go.RowKit
set_option linter.unusedVariables false

theorem lowE_ok {x y z p q r : Int} (h : lowE x y z = some (p, q, r)) : okF p q r = true := by
  unfold lowE at h
  split at h
  · cases h
  · unfold lowF at h
    simp only at h
    split at h
    · rename_i hk
      simp only [Option.some.injEq, Prod.mk.injEq] at h
      obtain ⟨rfl, rfl, rfl⟩ := h
      exact hk
    · cases h
theorem okF_i64 {p q r : Int} (h : okF p q r = true) : i64B p ∧ i64B q ∧ i64B r := by
  have := okF_bd h
  unfold i64B
  omega
theorem isNaN_any (n : Int) (w : World) : Calls Tryd.prog 113 #[.int .i64 n] w fun e w' => e = .returned (.bool false) ∧ w' = w := by
  go_enter Tryd.func113, Tryd.ntmps113
  go_wp2
  go_ret
  exact ⟨rfl, rfl⟩
set_option maxHeartbeats 1000000 in
theorem cmp_any (u v : Int) (w : World) : Calls Tryd.prog 97 #[.int .i64 u, .int .i64 v] w fun e w' => e = .returned (.int .i64 (signI (u - v))) ∧ w' = w := by
  obtain ⟨k, hk⟩ : ∃ k, signI (u - v) = k := ⟨_, rfl⟩
  rw [hk]
  have HK := Lib.hid hk
  clear hk
  go_enter Tryd.func97, Tryd.ntmps97
  go_wp2_with (first | (go_at_call 113; refine (isNaN_any _ _).mono ?_; rintro e w' ⟨rfl, rfl⟩))
  all_goals
    go_ret
    refine ⟨ret_int ?_, rfl⟩
    rw [← HK.out]
    unfold signI
    repeat' split
    all_goals omega
/-- An order and no error, or 0 and an error. -/
def ErredI (o : Option Int) (w : World) (e : Ending) (w' : World) : Prop :=
  (∀ n, o = some n → e = .returned (.tuple #[.int .i64 n, .nilIface])) ∧ (o = none → ∃ s, e = .returned (.tuple #[.int .i64 0, .iface 104 (.agg #[.string s])])) ∧ Below w.heap.size w w'
set_option maxHeartbeats 2000000 in
theorem mcompare_any (x y z a b c : Int) (w : World) (hx : i64B x) (hy : i64B y) (hz : i64B z) (ha : i64B a) (hb : i64B b) (hc : i64B c) :
    Calls Tryd.prog 64 #[.agg #[.int .i64 x, .int .i64 y, .int .i64 z], .agg #[.int .i64 a, .int .i64 b, .int .i64 c]] w (ErredI (compareF x y z a b c) w) := by
  have hb' := hb
  clear hb
  have e : compareF x y z a b c = if (okF x y z && decide (y = 0)) = true then (if (okF a b c && decide (b = 0)) = true then some (signI (x * c - a * z)) else none) else none := by
    unfold compareF
    cases okF x y z <;> cases okF a b c <;> cases decide (y = 0) <;> cases decide (b = 0) <;> rfl
  rw [e]
  clear e
  cases k1 : (okF x y z && decide (y = 0)) with
  | false =>
    rw [if_neg (by simp)]
    have K1 := Lib.hid k1
    clear k1
    go_enter Tryd.func64, Tryd.ntmps64
    go_wp2_with fail
    refine (checkReal_any x y z _ hx hy hz).mono ?_
    rintro e w1 ⟨-, h1, hb⟩
    obtain ⟨s, rfl⟩ := h1 K1.out
    clear h1
    obtain ⟨q00, q01, q02⟩ := keep3 hb (b := w.heap.size) (x := .int .i64 x) (y := .int .i64 y) (z := .int .i64 z) (by go_simp)
    have kb0 : w.heap.size < w1.heap.size := World.block_lt_of_cell? _ _ q00
    obtain ⟨q10, q11, q12⟩ := keep3 hb (b := w.heap.size + 1) (x := .int .i64 a) (y := .int .i64 b) (z := .int .i64 c) (by go_simp)
    have kb1 : w.heap.size + 1 < w1.heap.size := World.block_lt_of_cell? _ _ q10
    have haw1 : Acc w w1 := by
      refine Acc.call ?_ hb
      (repeat' (first | assumption | exact Acc.refl _ | refine Acc.drew ?_ | refine Acc.alloc ?_ _ | refine Acc.setCell ?_ (by omega) _))
    clear hb
    go_wp2_with fail
    go_ret2
    exact ⟨fun _ h => (by cases h), fun _ => ⟨_, rfl⟩, haw1⟩
  | true =>
    rw [if_pos rfl]
    have o1 : okF x y z = true := by
      cases h : okF x y z with
      | true => rfl
      | false => rw [h] at k1; cases k1
    obtain ⟨⟨x0, x1⟩, -, ⟨z0, z1⟩⟩ := okF_bd o1
    have K1 := Lib.hid k1
    clear k1 o1
    cases k2 : (okF a b c && decide (b = 0)) with
    | false =>
      rw [if_neg (by simp)]
      have K2 := Lib.hid k2
      clear k2
      go_enter Tryd.func64, Tryd.ntmps64
      go_wp2_with fail
      refine (checkReal_any x y z _ hx hy hz).mono ?_
      rintro e w1 ⟨h1, -, hb⟩
      obtain rfl := h1 K1.out
      clear h1
      obtain ⟨q00, q01, q02⟩ := keep3 hb (b := w.heap.size) (x := .int .i64 x) (y := .int .i64 y) (z := .int .i64 z) (by go_simp)
      have kb0 : w.heap.size < w1.heap.size := World.block_lt_of_cell? _ _ q00
      obtain ⟨q10, q11, q12⟩ := keep3 hb (b := w.heap.size + 1) (x := .int .i64 a) (y := .int .i64 b) (z := .int .i64 c) (by go_simp)
      have kb1 : w.heap.size + 1 < w1.heap.size := World.block_lt_of_cell? _ _ q10
      have haw1 : Acc w w1 := by
        refine Acc.call ?_ hb
        (repeat' (first | assumption | exact Acc.refl _ | refine Acc.drew ?_ | refine Acc.alloc ?_ _ | refine Acc.setCell ?_ (by omega) _))
      clear hb
      go_wp2_with fail
      refine (checkReal_any a b c _ ha hb' hc).mono ?_
      rintro e w2 ⟨-, h1, hb⟩
      obtain ⟨s, rfl⟩ := h1 K2.out
      clear h1
      obtain ⟨q00, q01, q02⟩ := keep3 hb (b := w.heap.size) (x := .int .i64 x) (y := .int .i64 y) (z := .int .i64 z) (by go_simp)
      have kb0 : w.heap.size < w2.heap.size := World.block_lt_of_cell? _ _ q00
      obtain ⟨q10, q11, q12⟩ := keep3 hb (b := w.heap.size + 1) (x := .int .i64 a) (y := .int .i64 b) (z := .int .i64 c) (by go_simp)
      have kb1 : w.heap.size + 1 < w2.heap.size := World.block_lt_of_cell? _ _ q10
      have haw2 : Acc w w2 := by
        refine Acc.call ?_ hb
        (repeat' (first | assumption | exact Acc.refl _ | refine Acc.drew ?_ | refine Acc.alloc ?_ _ | refine Acc.setCell ?_ (by omega) _))
      clear hb
      go_wp2_with fail
      go_ret2
      exact ⟨fun _ h => (by cases h), fun _ => ⟨_, rfl⟩, haw2⟩
    | true =>
      rw [if_pos rfl]
      have o2 : okF a b c = true := by
        cases h : okF a b c with
        | true => rfl
        | false => rw [h] at k2; cases k2
      obtain ⟨⟨a0, a1⟩, -, ⟨c0, c1⟩⟩ := okF_bd o2
      have m1 := mul_bd (a := x) (b := c) (m := 2000000000) (n := 2000000000) (by omega) (by omega) (by omega) (by omega)
      have m2 := mul_bd (a := a) (b := z) (m := 2000000000) (n := 2000000000) (by omega) (by omega) (by omega) (by omega)
      have N1 : -4000000000000000000 ≤ x * c := by omega
      have N2 : x * c ≤ 4000000000000000000 := by omega
      have N3 : -4000000000000000000 ≤ a * z := by omega
      have N4 : a * z ≤ 4000000000000000000 := by omega
      have K2 := Lib.hid k2
      clear k2 o2 m1 m2
      go_enter Tryd.func64, Tryd.ntmps64
      go_wp2_with fail
      refine (checkReal_any x y z _ hx hy hz).mono ?_
      rintro e w1 ⟨h1, -, hb⟩
      obtain rfl := h1 K1.out
      clear h1
      obtain ⟨q00, q01, q02⟩ := keep3 hb (b := w.heap.size) (x := .int .i64 x) (y := .int .i64 y) (z := .int .i64 z) (by go_simp)
      have kb0 : w.heap.size < w1.heap.size := World.block_lt_of_cell? _ _ q00
      obtain ⟨q10, q11, q12⟩ := keep3 hb (b := w.heap.size + 1) (x := .int .i64 a) (y := .int .i64 b) (z := .int .i64 c) (by go_simp)
      have kb1 : w.heap.size + 1 < w1.heap.size := World.block_lt_of_cell? _ _ q10
      have haw1 : Acc w w1 := by
        refine Acc.call ?_ hb
        (repeat' (first | assumption | exact Acc.refl _ | refine Acc.drew ?_ | refine Acc.alloc ?_ _ | refine Acc.setCell ?_ (by omega) _))
      clear hb
      go_wp2_with fail
      refine (checkReal_any a b c _ ha hb' hc).mono ?_
      rintro e w2 ⟨h1, -, hb⟩
      obtain rfl := h1 K2.out
      clear h1
      obtain ⟨q00, q01, q02⟩ := keep3 hb (b := w.heap.size) (x := .int .i64 x) (y := .int .i64 y) (z := .int .i64 z) (by go_simp)
      have kb0 : w.heap.size < w2.heap.size := World.block_lt_of_cell? _ _ q00
      obtain ⟨q10, q11, q12⟩ := keep3 hb (b := w.heap.size + 1) (x := .int .i64 a) (y := .int .i64 b) (z := .int .i64 c) (by go_simp)
      have kb1 : w.heap.size + 1 < w2.heap.size := World.block_lt_of_cell? _ _ q10
      have haw2 : Acc w w2 := by
        refine Acc.call ?_ hb
        (repeat' (first | assumption | exact Acc.refl _ | refine Acc.drew ?_ | refine Acc.alloc ?_ _ | refine Acc.setCell ?_ (by omega) _))
      clear hb
      go_wp2_with fail
      refine (cmp_any (x * c) (a * z) _).mono ?_
      rintro e w3 ⟨rfl, rfl⟩
      go_wp2_with fail
      go_ret2
      exact ⟨fun _ h => (by cases h; rfl), fun h => (by cases h), haw2⟩
/-- The wide number and no error, or 0 and an error. -/
def ErredW (x y z : Int) (w : World) (e : Ending) (w' : World) : Prop :=
  (okF x y z = true → ∃ p q, e = .returned (.tuple #[.complex .f64 p q, .nilIface]) ∧ Same p (fop .quo (floatOfInt .f64 x) (floatOfInt .f64 z)) ∧ Same q (fop .quo (floatOfInt .f64 y) (floatOfInt .f64 z))) ∧
  (okF x y z = false → ∃ s, e = .returned (.tuple #[.complex .f64 0 0, .iface 104 (.agg #[.string s])])) ∧ Below w.heap.size w w'
set_option maxHeartbeats 1000000 in
theorem mwide_any (x y z : Int) (w : World) (hx : i64B x) (hy : i64B y) (hz : i64B z) :
    Calls Tryd.prog 78 #[.agg #[.int .i64 x, .int .i64 y, .int .i64 z]] w (ErredW x y z w) := by
  cases hk : okF x y z with
  | false =>
    have HK := Lib.hid hk
    clear hk
    go_enter Tryd.func78, Tryd.ntmps78
    go_wp2_with fail
    refine (check_any x y z _ hx hy hz).mono ?_
    rintro e w1 ⟨-, h1, hb⟩
    obtain ⟨s, rfl⟩ := h1 HK.out
    clear h1
    obtain ⟨q00, q01, q02⟩ := keep3 hb (b := w.heap.size) (x := .int .i64 x) (y := .int .i64 y) (z := .int .i64 z) (by go_simp)
    have kb0 : w.heap.size < w1.heap.size := World.block_lt_of_cell? _ _ q00
    have haw1 : Acc w w1 := by
      refine Acc.call ?_ hb
      (repeat' (first | assumption | exact Acc.refl _ | refine Acc.drew ?_ | refine Acc.alloc ?_ _ | refine Acc.setCell ?_ (by omega) _))
    clear hb
    go_wp2_with fail
    go_ret2
    exact ⟨fun h => (by rw [HK.out] at h; cases h), fun _ => ⟨_, rfl⟩, haw1⟩
  | true =>
    obtain ⟨⟨x0, x1⟩, ⟨y0, y1⟩, ⟨z0, z1⟩⟩ := okF_bd hk
    have HK := Lib.hid hk
    clear hk
    go_enter Tryd.func78, Tryd.ntmps78
    go_wp2_with fail
    refine (check_any x y z _ hx hy hz).mono ?_
    rintro e w1 ⟨h1, -, hb⟩
    obtain rfl := h1 HK.out
    clear h1
    obtain ⟨q00, q01, q02⟩ := keep3 hb (b := w.heap.size) (x := .int .i64 x) (y := .int .i64 y) (z := .int .i64 z) (by go_simp)
    have kb0 : w.heap.size < w1.heap.size := World.block_lt_of_cell? _ _ q00
    have haw1 : Acc w w1 := by
      refine Acc.call ?_ hb
      (repeat' (first | assumption | exact Acc.refl _ | refine Acc.drew ?_ | refine Acc.alloc ?_ _ | refine Acc.setCell ?_ (by omega) _))
    clear hb
    go_wp2_with (simp only [run_quo])
    go_ret2
    exact ⟨fun _ => ⟨_, _, rfl, fval_same .., fval_same ..⟩, fun h => (by rw [HK.out] at h; cases h), Below.trans haw1 (Bare.trans (fworld_bare _ _ _ _) (fworld_bare _ _ _ _) _)⟩
end Go.Proofs.YtbihlkienhbapabDoor
