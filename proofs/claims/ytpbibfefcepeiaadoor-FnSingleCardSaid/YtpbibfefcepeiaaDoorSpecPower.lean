/-
  The model: powers and orders of fractions.
-/
import Derived.Test.YtpbibfefcepeiaaDoorSpecMake
namespace Go.Proofs.YtpbibfefcepeiaaDoor
open Go.ChangeShapes Go.WideShapes Go.ChangeAt Go.RowKit
set_option linter.unusedVariables false

def powerF (x y z : Int) : Option (Int × Int × Int) := if okF x y z = true then timesF x y z x (-y) z else none
set_option maxHeartbeats 1000000 in
theorem specPower_any (x y z : Int) (w : World) :
    Calls Tryd.prog 36 #[.agg #[.int .i64 x, .int .i64 y, .int .i64 z]] w (Gave (powerF x y z) w) := by
  cases h1 : okF x y z with
  | false =>
    have e : powerF x y z = none := by unfold powerF; rw [h1]; rfl
    have e2 : mirrorF x y z = none := by unfold mirrorF; rw [h1]; rfl
    rw [e]
    have H1 := Lib.hid e2
    clear h1 e e2
    go_enter Tryd.func36, Tryd.ntmps36
    go_wp2_with fail
    refine (specMirror_any x y z _).mono ?_
    rw [H1.out]
    rintro e w1 ⟨rfl, hb⟩
    obtain ⟨q00, q01, q02⟩ := keep3 hb (b := w.heap.size) (x := .int .i64 x) (y := .int .i64 y) (z := .int .i64 z) (by go_simp)
    have kb0 : w.heap.size < w1.heap.size := World.block_lt_of_cell? _ _ q00
    obtain ⟨r0, r1, r2⟩ := keep3 hb (b := w.heap.size + 1) (x := .int .i64 0) (y := .int .i64 0) (z := .int .i64 0) (by go_simp)
    have kz : w.heap.size + 1 < w1.heap.size := World.block_lt_of_cell? _ _ r0
    obtain ⟨f0, f1, f2⟩ := keepf3 hb (b := w.heap.size + 1) (by go_simp) (by go_simp)
    have haw1 : Acc w w1 := by
      refine Acc.call ?_ hb
      (repeat' (first | assumption | exact Acc.refl _ | refine Acc.drew ?_ | refine Acc.alloc ?_ _ | refine Acc.setCell ?_ (by omega) _))
    clear hb
    simp only [resV]
    go_wp2_with fail
    refine bodyPost_ret (v := .tuple #[.agg #[.int .i64 0, .int .i64 0, .int .i64 0], .bool false]) (by simp [results, Tryd.results36, go_sem, r0, r1, r2, kz]) rfl ⟨rfl, ?_⟩
    show Acc w _
    (repeat' (first | assumption | exact Acc.refl _ | refine Acc.drew ?_ | refine Acc.alloc ?_ _ | refine Acc.setCell ?_ (by omega) _))
  | true =>
    have e : powerF x y z = timesF x y z x (-y) z := by unfold powerF; rw [h1]; rfl
    have e2 : mirrorF x y z = some (x, -y, z) := by unfold mirrorF; rw [h1]; rfl
    rw [e]
    have H1 := Lib.hid e2
    clear h1 e e2
    obtain ⟨o, ho⟩ : ∃ o, timesF x y z x (-y) z = o := ⟨_, rfl⟩
    rw [ho]
    have HO := Lib.hid ho
    clear ho
    go_enter Tryd.func36, Tryd.ntmps36
    go_wp2_with fail
    refine (specMirror_any x y z _).mono ?_
    rw [H1.out]
    rintro e w1 ⟨rfl, hb⟩
    obtain ⟨q00, q01, q02⟩ := keep3 hb (b := w.heap.size) (x := .int .i64 x) (y := .int .i64 y) (z := .int .i64 z) (by go_simp)
    have kb0 : w.heap.size < w1.heap.size := World.block_lt_of_cell? _ _ q00
    obtain ⟨r0, r1, r2⟩ := keep3 hb (b := w.heap.size + 1) (x := .int .i64 0) (y := .int .i64 0) (z := .int .i64 0) (by go_simp)
    have kz : w.heap.size + 1 < w1.heap.size := World.block_lt_of_cell? _ _ r0
    obtain ⟨f0, f1, f2⟩ := keepf3 hb (b := w.heap.size + 1) (by go_simp) (by go_simp)
    have haw1 : Acc w w1 := by
      refine Acc.call ?_ hb
      (repeat' (first | assumption | exact Acc.refl _ | refine Acc.drew ?_ | refine Acc.alloc ?_ _ | refine Acc.setCell ?_ (by omega) _))
    clear hb
    simp only [resV]
    go_wp2_with fail
    refine (specTimes_any x y z x (-y) z _).mono ?_
    rw [HO.out]
    rintro e w2 ⟨rfl, hb⟩
    obtain ⟨q00, q01, q02⟩ := keep3 hb (b := w.heap.size) (x := .int .i64 x) (y := .int .i64 y) (z := .int .i64 z) (by go_simp)
    have kb0 : w.heap.size < w2.heap.size := World.block_lt_of_cell? _ _ q00
    obtain ⟨r0, r1, r2⟩ := keep3 hb (b := w.heap.size + 1) (x := .int .i64 0) (y := .int .i64 0) (z := .int .i64 0) (by go_simp)
    have kz : w.heap.size + 1 < w2.heap.size := World.block_lt_of_cell? _ _ r0
    obtain ⟨f0, f1, f2⟩ := keepf3 hb (b := w.heap.size + 1) (by go_simp) (by go_simp)
    have haw2 : Acc w w2 := by
      refine Acc.call ?_ hb
      (repeat' (first | assumption | exact Acc.refl _ | refine Acc.drew ?_ | refine Acc.alloc ?_ _ | refine Acc.setCell ?_ (by omega) _))
    clear hb
    rw [resV_eq]
    go_wp2_with fail
    refine bodyPost_ret (v := .tuple #[.agg #[.int .i64 (partsR o).1, .int .i64 (partsR o).2.1, .int .i64 (partsR o).2.2], .bool (okR o)]) (by simp [results, Tryd.results36, go_sem, r0, r1, r2]) rfl ⟨by rw [resV_eq], ?_⟩
    show Acc w _
    (repeat' (first | assumption | exact Acc.refl _ | refine Acc.drew ?_ | refine Acc.alloc ?_ _ | refine Acc.setCell ?_ (by omega) _))

def signI (n : Int) : Int := if n < 0 then -1 else if n = 0 then 0 else 1
set_option maxHeartbeats 1000000 in
theorem specSign_any (n : Int) (w : World) :
    Calls Tryd.prog 68 #[.int .i64 n] w fun e w' => e = .returned (.int .i64 (signI n)) ∧ w = w' := by
  obtain ⟨s, hs⟩ : ∃ s, signI n = s := ⟨_, rfl⟩
  rw [hs]
  have HS := Lib.hid hs
  clear hs
  go_enter Tryd.func68, Tryd.ntmps68
  go_wp2
  all_goals
    go_ret
    refine ⟨ret_int ?_, rfl⟩
    rw [← HS.out]
    unfold signI
    repeat' split
    all_goals omega

/-- An order and true, or 0 and false. -/
def cmpV : Option Int → Value
  | some s => .tuple #[.int .i64 s, .bool true]
  | none => .tuple #[.int .i64 0, .bool false]
def compareF (x y z a b c : Int) : Option Int :=
  if (okF x y z && okF a b c && decide (y = 0) && decide (b = 0)) = true then some (signI (x * c - a * z)) else none
set_option maxHeartbeats 1000000 in
theorem specCompare_any (x y z a b c : Int) (w : World) :
    Calls Tryd.prog 39 #[.agg #[.int .i64 x, .int .i64 y, .int .i64 z], .agg #[.int .i64 a, .int .i64 b, .int .i64 c]] w fun e w' => e = .returned (cmpV (compareF x y z a b c)) ∧ Below w.heap.size w w' := by
  cases h1 : okF x y z with
  | false =>
    have e : compareF x y z a b c = none := by unfold compareF; rw [h1]; rfl
    rw [e]
    have H1 := Lib.hid h1
    clear h1 e
    go_enter Tryd.func39, Tryd.ntmps39
    go_wp2_with fail
    refine (specValid_any x y z _).mono ?_
    rw [H1.out]
    rintro e w1 ⟨rfl, hb⟩
    obtain ⟨q00, q01, q02⟩ := keep3 hb (b := w.heap.size) (x := .int .i64 x) (y := .int .i64 y) (z := .int .i64 z) (by go_simp)
    have kb0 : w.heap.size < w1.heap.size := World.block_lt_of_cell? _ _ q00
    obtain ⟨q10, q11, q12⟩ := keep3 hb (b := w.heap.size + 1) (x := .int .i64 a) (y := .int .i64 b) (z := .int .i64 c) (by go_simp)
    have kb1 : w.heap.size + 1 < w1.heap.size := World.block_lt_of_cell? _ _ q10
    have haw1 : Acc w w1 := by
      refine Acc.call ?_ hb
      (repeat' (first | assumption | exact Acc.refl _ | refine Acc.drew ?_ | refine Acc.alloc ?_ _ | refine Acc.setCell ?_ (by omega) _))
    clear hb
    go_wp2_with fail
    go_ret2
    exact ⟨rfl, haw1⟩
  | true =>
    obtain ⟨⟨x0, x1⟩, ⟨y0, y1⟩, ⟨z0, z1⟩⟩ := okF_bd h1
    have H1 := Lib.hid h1
    cases h2 : okF a b c with
    | false =>
      have e : compareF x y z a b c = none := by unfold compareF; rw [h1, h2]; rfl
      rw [e]
      have H2 := Lib.hid h2
      clear h1 h2 e
      go_enter Tryd.func39, Tryd.ntmps39
      go_wp2_with fail
      refine (specValid_any x y z _).mono ?_
      rw [H1.out]
      rintro e w1 ⟨rfl, hb⟩
      obtain ⟨q00, q01, q02⟩ := keep3 hb (b := w.heap.size) (x := .int .i64 x) (y := .int .i64 y) (z := .int .i64 z) (by go_simp)
      have kb0 : w.heap.size < w1.heap.size := World.block_lt_of_cell? _ _ q00
      obtain ⟨q10, q11, q12⟩ := keep3 hb (b := w.heap.size + 1) (x := .int .i64 a) (y := .int .i64 b) (z := .int .i64 c) (by go_simp)
      have kb1 : w.heap.size + 1 < w1.heap.size := World.block_lt_of_cell? _ _ q10
      have haw1 : Acc w w1 := by
        refine Acc.call ?_ hb
        (repeat' (first | assumption | exact Acc.refl _ | refine Acc.drew ?_ | refine Acc.alloc ?_ _ | refine Acc.setCell ?_ (by omega) _))
      clear hb
      go_wp2_with fail
      refine (specValid_any a b c _).mono ?_
      rw [H2.out]
      rintro e w2 ⟨rfl, hb⟩
      obtain ⟨q00, q01, q02⟩ := keep3 hb (b := w.heap.size) (x := .int .i64 x) (y := .int .i64 y) (z := .int .i64 z) (by go_simp)
      have kb0 : w.heap.size < w2.heap.size := World.block_lt_of_cell? _ _ q00
      obtain ⟨q10, q11, q12⟩ := keep3 hb (b := w.heap.size + 1) (x := .int .i64 a) (y := .int .i64 b) (z := .int .i64 c) (by go_simp)
      have kb1 : w.heap.size + 1 < w2.heap.size := World.block_lt_of_cell? _ _ q10
      have haw2 : Acc w w2 := by
        refine Acc.call ?_ hb
        (repeat' (first | assumption | exact Acc.refl _ | refine Acc.drew ?_ | refine Acc.alloc ?_ _ | refine Acc.setCell ?_ (by omega) _))
      clear hb
      go_wp2_with fail
      go_ret2
      exact ⟨rfl, haw2⟩
    | true =>
      obtain ⟨⟨a0, a1⟩, ⟨b0, b1⟩, ⟨c0, c1⟩⟩ := okF_bd h2
      have H2 := Lib.hid h2
      by_cases hy : y = 0
      · by_cases hb : b = 0
        · subst hy hb
          have e : compareF x 0 z a 0 c = some (signI (x * c - a * z)) := by unfold compareF; rw [h1, h2]; rfl
          rw [e]
          clear h1 h2 e
          have m1 := mul_bd (a := x) (b := c) (m := 2000000000) (n := 2000000000) (by omega) (by omega) (by omega) (by omega)
          have m2 := mul_bd (a := a) (b := z) (m := 2000000000) (n := 2000000000) (by omega) (by omega) (by omega) (by omega)
          have N1 : -4000000000000000000 ≤ x * c := by omega
          have N2 : x * c ≤ 4000000000000000000 := by omega
          have N5 : -4000000000000000000 ≤ a * z := by omega
          have N6 : a * z ≤ 4000000000000000000 := by omega
          clear m1 m2
          go_enter Tryd.func39, Tryd.ntmps39
          go_wp2_with fail
          refine (specValid_any x 0 z _).mono ?_
          rw [H1.out]
          rintro e w1 ⟨rfl, hb⟩
          obtain ⟨q00, q01, q02⟩ := keep3 hb (b := w.heap.size) (x := .int .i64 x) (y := .int .i64 0) (z := .int .i64 z) (by go_simp)
          have kb0 : w.heap.size < w1.heap.size := World.block_lt_of_cell? _ _ q00
          obtain ⟨q10, q11, q12⟩ := keep3 hb (b := w.heap.size + 1) (x := .int .i64 a) (y := .int .i64 0) (z := .int .i64 c) (by go_simp)
          have kb1 : w.heap.size + 1 < w1.heap.size := World.block_lt_of_cell? _ _ q10
          have haw1 : Acc w w1 := by
            refine Acc.call ?_ hb
            (repeat' (first | assumption | exact Acc.refl _ | refine Acc.drew ?_ | refine Acc.alloc ?_ _ | refine Acc.setCell ?_ (by omega) _))
          clear hb
          go_wp2_with fail
          refine (specValid_any a 0 c _).mono ?_
          rw [H2.out]
          rintro e w2 ⟨rfl, hb⟩
          obtain ⟨q00, q01, q02⟩ := keep3 hb (b := w.heap.size) (x := .int .i64 x) (y := .int .i64 0) (z := .int .i64 z) (by go_simp)
          have kb0 : w.heap.size < w2.heap.size := World.block_lt_of_cell? _ _ q00
          obtain ⟨q10, q11, q12⟩ := keep3 hb (b := w.heap.size + 1) (x := .int .i64 a) (y := .int .i64 0) (z := .int .i64 c) (by go_simp)
          have kb1 : w.heap.size + 1 < w2.heap.size := World.block_lt_of_cell? _ _ q10
          have haw2 : Acc w w2 := by
            refine Acc.call ?_ hb
            (repeat' (first | assumption | exact Acc.refl _ | refine Acc.drew ?_ | refine Acc.alloc ?_ _ | refine Acc.setCell ?_ (by omega) _))
          clear hb
          go_wp2_with fail
          refine (specSign_any (x * c - a * z) _).mono ?_
          rintro e w3 ⟨rfl, rfl⟩
          go_wp2_with fail
          go_ret2
          exact ⟨rfl, haw2⟩
        · have e : compareF x y z a b c = none := by unfold compareF; rw [h1, h2]; simp [hb]
          rw [e]
          have g1 : (b != 0) = true := by simpa using hb
          have g2 : (y != 0) = false := by simpa using hy
          subst hy
          clear h1 h2 e hb g2
          go_enter Tryd.func39, Tryd.ntmps39
          go_wp2_with fail
          refine (specValid_any x 0 z _).mono ?_
          rw [H1.out]
          rintro e w1 ⟨rfl, hb⟩
          obtain ⟨q00, q01, q02⟩ := keep3 hb (b := w.heap.size) (x := .int .i64 x) (y := .int .i64 0) (z := .int .i64 z) (by go_simp)
          have kb0 : w.heap.size < w1.heap.size := World.block_lt_of_cell? _ _ q00
          obtain ⟨q10, q11, q12⟩ := keep3 hb (b := w.heap.size + 1) (x := .int .i64 a) (y := .int .i64 b) (z := .int .i64 c) (by go_simp)
          have kb1 : w.heap.size + 1 < w1.heap.size := World.block_lt_of_cell? _ _ q10
          have haw1 : Acc w w1 := by
            refine Acc.call ?_ hb
            (repeat' (first | assumption | exact Acc.refl _ | refine Acc.drew ?_ | refine Acc.alloc ?_ _ | refine Acc.setCell ?_ (by omega) _))
          clear hb
          go_wp2_with fail
          refine (specValid_any a b c _).mono ?_
          rw [H2.out]
          rintro e w2 ⟨rfl, hb⟩
          obtain ⟨q00, q01, q02⟩ := keep3 hb (b := w.heap.size) (x := .int .i64 x) (y := .int .i64 0) (z := .int .i64 z) (by go_simp)
          have kb0 : w.heap.size < w2.heap.size := World.block_lt_of_cell? _ _ q00
          obtain ⟨q10, q11, q12⟩ := keep3 hb (b := w.heap.size + 1) (x := .int .i64 a) (y := .int .i64 b) (z := .int .i64 c) (by go_simp)
          have kb1 : w.heap.size + 1 < w2.heap.size := World.block_lt_of_cell? _ _ q10
          have haw2 : Acc w w2 := by
            refine Acc.call ?_ hb
            (repeat' (first | assumption | exact Acc.refl _ | refine Acc.drew ?_ | refine Acc.alloc ?_ _ | refine Acc.setCell ?_ (by omega) _))
          clear hb
          go_wp2_with fail
          go_ret2
          exact ⟨rfl, haw2⟩
      · have e : compareF x y z a b c = none := by unfold compareF; rw [h1, h2]; simp [hy]
        rw [e]
        have g1 : (y != 0) = true := by simpa using hy
        clear h1 h2 e hy
        go_enter Tryd.func39, Tryd.ntmps39
        go_wp2_with fail
        refine (specValid_any x y z _).mono ?_
        rw [H1.out]
        rintro e w1 ⟨rfl, hb⟩
        obtain ⟨q00, q01, q02⟩ := keep3 hb (b := w.heap.size) (x := .int .i64 x) (y := .int .i64 y) (z := .int .i64 z) (by go_simp)
        have kb0 : w.heap.size < w1.heap.size := World.block_lt_of_cell? _ _ q00
        obtain ⟨q10, q11, q12⟩ := keep3 hb (b := w.heap.size + 1) (x := .int .i64 a) (y := .int .i64 b) (z := .int .i64 c) (by go_simp)
        have kb1 : w.heap.size + 1 < w1.heap.size := World.block_lt_of_cell? _ _ q10
        have haw1 : Acc w w1 := by
          refine Acc.call ?_ hb
          (repeat' (first | assumption | exact Acc.refl _ | refine Acc.drew ?_ | refine Acc.alloc ?_ _ | refine Acc.setCell ?_ (by omega) _))
        clear hb
        go_wp2_with fail
        refine (specValid_any a b c _).mono ?_
        rw [H2.out]
        rintro e w2 ⟨rfl, hb⟩
        obtain ⟨q00, q01, q02⟩ := keep3 hb (b := w.heap.size) (x := .int .i64 x) (y := .int .i64 y) (z := .int .i64 z) (by go_simp)
        have kb0 : w.heap.size < w2.heap.size := World.block_lt_of_cell? _ _ q00
        obtain ⟨q10, q11, q12⟩ := keep3 hb (b := w.heap.size + 1) (x := .int .i64 a) (y := .int .i64 b) (z := .int .i64 c) (by go_simp)
        have kb1 : w.heap.size + 1 < w2.heap.size := World.block_lt_of_cell? _ _ q10
        have haw2 : Acc w w2 := by
          refine Acc.call ?_ hb
          (repeat' (first | assumption | exact Acc.refl _ | refine Acc.drew ?_ | refine Acc.alloc ?_ _ | refine Acc.setCell ?_ (by omega) _))
        clear hb
        go_wp2_with fail
        go_ret2
        exact ⟨rfl, haw2⟩

end Go.Proofs.YtpbibfefcepeiaaDoor
