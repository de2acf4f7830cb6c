/-
  The program's checks of fractions.
-/
import Derived.Test.YtbihlkienhbapabDoorImplLow
namespace Go.Proofs.YtbihlkienhbapabDoor
open Go.ChangeShapes Go.WideShapes Go.ChangeAt Go.RowKit
set_option linter.unusedVariables false

/-- No error if it is one, else an error. -/
def Checked (k : Bool) (w : World) (e : Ending) (w' : World) : Prop :=
  (k = true → e = .returned .nilIface) ∧ (k = false → ∃ s, e = .returned (.iface 104 (.agg #[.string s]))) ∧ Below w.heap.size w w'
set_option maxHeartbeats 2000000 in
theorem check_any (x y z : Int) (w : World) (hx : i64B x) (hy : i64B y) (hz : i64B z) :
    Calls Tryd.prog 85 #[.agg #[.int .i64 x, .int .i64 y, .int .i64 z]] w (Checked (okF x y z) w) := by
  cases ho : okF x y z with
  | true =>
    have hl := okF_low.1 ho
    have HL := Lib.hid hl
    clear ho hl
    go_enter Tryd.func85, Tryd.ntmps85
    go_wp2_with fail
    refine (lowest_any x y z _ hx hy hz).mono ?_
    rintro e w1 ⟨h1, -, hb⟩
    obtain rfl := h1 _ _ _ HL.out
    clear h1
    obtain ⟨q00, q01, q02⟩ := keep3 hb (b := w.heap.size) (x := .int .i64 x) (y := .int .i64 y) (z := .int .i64 z) (by go_simp)
    have kb0 : w.heap.size < w1.heap.size := World.block_lt_of_cell? _ _ q00
    have haw1 : Acc w w1 := by
      refine Acc.call ?_ hb
      (repeat' (first | assumption | exact Acc.refl _ | refine Acc.drew ?_ | refine Acc.alloc ?_ _ | refine Acc.setCell ?_ (by omega) _))
    clear hb
    go_wp2_with fail
    go_ret
    exact ⟨fun _ => rfl, fun h => (by cases h), haw1.alloc _⟩
  | false =>
    have HN : lowE x y z ≠ some (x, y, z) := fun h => (by rw [okF_low.2 h] at ho; cases ho)
    clear ho
    cases hl : lowE x y z with
    | none =>
      have HL := Lib.hid hl
      clear hl HN
      go_enter Tryd.func85, Tryd.ntmps85
      go_wp2_with fail
      refine (lowest_any x y z _ hx hy hz).mono ?_
      rintro e w1 ⟨-, h1, hb⟩
      obtain ⟨s, rfl⟩ := h1 HL.out
      clear h1
      obtain ⟨q00, q01, q02⟩ := keep3 hb (b := w.heap.size) (x := .int .i64 x) (y := .int .i64 y) (z := .int .i64 z) (by go_simp)
      have kb0 : w.heap.size < w1.heap.size := World.block_lt_of_cell? _ _ q00
      have haw1 : Acc w w1 := by
        refine Acc.call ?_ hb
        (repeat' (first | assumption | exact Acc.refl _ | refine Acc.drew ?_ | refine Acc.alloc ?_ _ | refine Acc.setCell ?_ (by omega) _))
      clear hb
      go_wp2_with fail
      refine (noFrac_any _).mono ?_
      rintro e w2 ⟨s, rfl, rfl⟩
      go_wp2_with fail
      go_ret
      exact ⟨fun h => (by cases h), fun _ => ⟨_, rfl⟩, haw1.alloc _⟩
    | some v =>
      obtain ⟨p, q, r⟩ := v
      have HL := Lib.hid hl
      have hne : (x == p && y == q && z == r) = false := by
        cases hh : (x == p && y == q && z == r) with
        | false => rfl
        | true =>
          simp only [Bool.and_eq_true, beq_iff_eq] at hh
          obtain ⟨⟨rfl, rfl⟩, rfl⟩ := hh
          exact absurd hl HN
      have NE := Lib.hid hne
      clear hl HN hne
      go_enter Tryd.func85, Tryd.ntmps85
      go_wp2_with fail
      refine (lowest_any x y z _ hx hy hz).mono ?_
      rintro e w1 ⟨h1, -, hb⟩
      obtain rfl := h1 _ _ _ HL.out
      clear h1
      obtain ⟨q00, q01, q02⟩ := keep3 hb (b := w.heap.size) (x := .int .i64 x) (y := .int .i64 y) (z := .int .i64 z) (by go_simp)
      have kb0 : w.heap.size < w1.heap.size := World.block_lt_of_cell? _ _ q00
      have haw1 : Acc w w1 := by
        refine Acc.call ?_ hb
        (repeat' (first | assumption | exact Acc.refl _ | refine Acc.drew ?_ | refine Acc.alloc ?_ _ | refine Acc.setCell ?_ (by omega) _))
      clear hb
      go_wp2_with fail
      all_goals
        first
          | (exfalso; have hne := NE.out; simp only [Bool.and_eq_false_iff, beq_eq_false_iff_ne] at hne; omega)
          | (refine (noFrac_any _).mono ?_
             rintro e w2 ⟨s, rfl, rfl⟩
             go_wp2_with fail
             go_ret
             exact ⟨fun h => (by cases h), fun _ => ⟨_, rfl⟩, haw1.alloc _⟩)
set_option maxHeartbeats 2000000 in
theorem checkBoth_any (x y z a b c : Int) (w : World) (hx : i64B x) (hy : i64B y) (hz : i64B z) (ha : i64B a) (hb : i64B b) (hc : i64B c) :
    Calls Tryd.prog 47 #[.agg #[.int .i64 x, .int .i64 y, .int .i64 z], .agg #[.int .i64 a, .int .i64 b, .int .i64 c]] w (Checked (okF x y z && okF a b c) w) := by
  have hb' := hb
  clear hb
  cases ho : okF x y z with
  | false =>
    have HO := Lib.hid ho
    clear ho
    simp only [Bool.false_and]
    go_enter Tryd.func47, Tryd.ntmps47
    go_wp2_with fail
    refine (check_any x y z _ hx hy hz).mono ?_
    rintro e w1 ⟨-, h1, hb⟩
    obtain ⟨s, rfl⟩ := h1 HO.out
    clear h1
    obtain ⟨q00, q01, q02⟩ := keep3 hb (b := w.heap.size) (x := .int .i64 x) (y := .int .i64 y) (z := .int .i64 z) (by go_simp)
    have kb0 : w.heap.size < w1.heap.size := World.block_lt_of_cell? _ _ q00
    obtain ⟨q10, q11, q12⟩ := keep3 hb (b := w.heap.size + 1) (x := .int .i64 a) (y := .int .i64 b) (z := .int .i64 c) (by go_simp)
    have kb1 : w.heap.size + 1 < w1.heap.size := World.block_lt_of_cell? _ _ q10
    have haw1 : Acc w w1 := by
      refine Acc.call ?_ hb
      (repeat' (first | assumption | exact Acc.refl _ | refine Acc.drew ?_ | refine Acc.alloc ?_ _ | refine Acc.setCell ?_ (by omega) _))
    clear hb
    go_wp2_with fail
    go_ret
    exact ⟨fun h => (by cases h), fun _ => ⟨_, rfl⟩, haw1⟩
  | true =>
    have HO := Lib.hid ho
    clear ho
    simp only [Bool.true_and]
    go_enter Tryd.func47, Tryd.ntmps47
    go_wp2_with fail
    refine (check_any x y z _ hx hy hz).mono ?_
    rintro e w1 ⟨h1, -, hb⟩
    obtain rfl := h1 HO.out
    clear h1
    obtain ⟨q00, q01, q02⟩ := keep3 hb (b := w.heap.size) (x := .int .i64 x) (y := .int .i64 y) (z := .int .i64 z) (by go_simp)
    have kb0 : w.heap.size < w1.heap.size := World.block_lt_of_cell? _ _ q00
    obtain ⟨q10, q11, q12⟩ := keep3 hb (b := w.heap.size + 1) (x := .int .i64 a) (y := .int .i64 b) (z := .int .i64 c) (by go_simp)
    have kb1 : w.heap.size + 1 < w1.heap.size := World.block_lt_of_cell? _ _ q10
    have haw1 : Acc w w1 := by
      refine Acc.call ?_ hb
      (repeat' (first | assumption | exact Acc.refl _ | refine Acc.drew ?_ | refine Acc.alloc ?_ _ | refine Acc.setCell ?_ (by omega) _))
    clear hb
    go_wp2_with fail
    refine (check_any a b c _ ha hb' hc).mono ?_
    rintro e w2 ⟨h1, h2, hb⟩
    have haw2 : Acc w w2 := by
      refine Acc.call ?_ hb
      (repeat' (first | assumption | exact Acc.refl _ | refine Acc.drew ?_ | refine Acc.alloc ?_ _ | refine Acc.setCell ?_ (by omega) _))
    clear hb
    cases ho2 : okF a b c with
    | true =>
      obtain rfl := h1 ho2
      clear h1 h2
      go_wp2_with fail
      go_ret
      exact ⟨fun _ => rfl, fun h => (by rw [ho2] at h; cases h), haw2⟩
    | false =>
      obtain ⟨s, rfl⟩ := h2 ho2
      clear h1 h2
      go_wp2_with fail
      go_ret
      exact ⟨fun h => (by rw [ho2] at h; cases h), fun _ => ⟨_, rfl⟩, haw2⟩
set_option maxHeartbeats 2000000 in
theorem checkReal_any (x y z : Int) (w : World) (hx : i64B x) (hy : i64B y) (hz : i64B z) :
    Calls Tryd.prog 96 #[.agg #[.int .i64 x, .int .i64 y, .int .i64 z]] w (Checked (okF x y z && decide (y = 0)) w) := by
  cases ho : okF x y z with
  | false =>
    have HO := Lib.hid ho
    clear ho
    simp only [Bool.false_and]
    go_enter Tryd.func96, Tryd.ntmps96
    go_wp2_with fail
    refine (check_any x y z _ hx hy hz).mono ?_
    rintro e w1 ⟨-, h1, hb⟩
    obtain ⟨s, rfl⟩ := h1 HO.out
    clear h1
    obtain ⟨q00, q01, q02⟩ := keep3 hb (b := w.heap.size) (x := .int .i64 x) (y := .int .i64 y) (z := .int .i64 z) (by go_simp)
    have kb0 : w.heap.size < w1.heap.size := World.block_lt_of_cell? _ _ q00
    have haw1 : Acc w w1 := by
      refine Acc.call ?_ hb
      (repeat' (first | assumption | exact Acc.refl _ | refine Acc.drew ?_ | refine Acc.alloc ?_ _ | refine Acc.setCell ?_ (by omega) _))
    clear hb
    go_wp2_with fail
    go_ret
    exact ⟨fun h => (by cases h), fun _ => ⟨_, rfl⟩, haw1⟩
  | true =>
    have HO := Lib.hid ho
    clear ho
    simp only [Bool.true_and]
    by_cases h0 : y = 0
    · subst h0
      go_enter Tryd.func96, Tryd.ntmps96
      go_wp2_with fail
      refine (check_any x 0 z _ hx hy hz).mono ?_
      rintro e w1 ⟨h1, -, hb⟩
      obtain rfl := h1 HO.out
      clear h1
      obtain ⟨q00, q01, q02⟩ := keep3 hb (b := w.heap.size) (x := .int .i64 x) (y := .int .i64 0) (z := .int .i64 z) (by go_simp)
      have kb0 : w.heap.size < w1.heap.size := World.block_lt_of_cell? _ _ q00
      have haw1 : Acc w w1 := by
        refine Acc.call ?_ hb
        (repeat' (first | assumption | exact Acc.refl _ | refine Acc.drew ?_ | refine Acc.alloc ?_ _ | refine Acc.setCell ?_ (by omega) _))
      clear hb
      go_wp2_with fail
      go_ret
      exact ⟨fun _ => rfl, fun h => (by simp at h), haw1⟩
    · have h0' : (y == 0) = false := by simpa using h0
      have e0 : decide (y = 0) = false := by simpa using h0
      rw [e0]
      clear e0
      go_enter Tryd.func96, Tryd.ntmps96
      go_wp2_with fail
      refine (check_any x y z _ hx hy hz).mono ?_
      rintro e w1 ⟨h1, -, hb⟩
      obtain rfl := h1 HO.out
      clear h1
      obtain ⟨q00, q01, q02⟩ := keep3 hb (b := w.heap.size) (x := .int .i64 x) (y := .int .i64 y) (z := .int .i64 z) (by go_simp)
      have kb0 : w.heap.size < w1.heap.size := World.block_lt_of_cell? _ _ q00
      have haw1 : Acc w w1 := by
        refine Acc.call ?_ hb
        (repeat' (first | assumption | exact Acc.refl _ | refine Acc.drew ?_ | refine Acc.alloc ?_ _ | refine Acc.setCell ?_ (by omega) _))
      clear hb
      go_wp2_with fail
      refine (noReal_any _).mono ?_
      rintro e w2 ⟨s, rfl, rfl⟩
      go_wp2_with fail
      go_ret
      exact ⟨fun h => (by cases h), fun _ => ⟨_, rfl⟩, haw1⟩
set_option maxHeartbeats 1000000 in
theorem opposite_any (a b c a' b' : Int) (w : World) (ha : RowKit.wrap64 (-a) = a') (hb : RowKit.wrap64 (-b) = b') :
    Calls Tryd.prog 102 #[.agg #[.int .i64 a, .int .i64 b, .int .i64 c]] w fun e w' => e = .returned (.agg #[.int .i64 a', .int .i64 b', .int .i64 c]) ∧ Below w.heap.size w w' := by
  have HA' := Lib.hid ha
  have HB' := Lib.hid hb
  clear ha hb
  go_enter Tryd.func102, Tryd.ntmps102
  go_wp2_with fail
  rw [HA'.out, HB'.out]
  refine bodyPost_ret (v := .agg #[.int .i64 a', .int .i64 b', .int .i64 c]) (by simp [results, Tryd.results102, go_sem]) rfl ⟨rfl, ?_⟩
  show Acc w _
  (repeat' (first | assumption | exact Acc.refl _ | refine Acc.drew ?_ | refine Acc.alloc ?_ _ | refine Acc.setCell ?_ (by omega) _))
end Go.Proofs.YtbihlkienhbapabDoor
