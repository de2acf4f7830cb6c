/-
  The model: fractions turned over, quotients.
-/
import Derived.Test.YtpbibfefcepeiaaDoorSpecPower
namespace Go.Proofs.YtpbibfefcepeiaaDoor
open Go.ChangeShapes Go.WideShapes Go.ChangeAt Go.RowKit
set_option linter.unusedVariables false

/-- 1 over a fraction. -/
def turnedF (x y z : Int) : Option (Int × Int × Int) :=
  if x * x + y * y = 0 then none else lowF (x * (z / (Int.gcd (x * x + y * y) z : Int))) (-(y * (z / (Int.gcd (x * x + y * y) z : Int)))) ((x * x + y * y) / (Int.gcd (x * x + y * y) z : Int))

theorem sq_bd {x : Int} (h : -2000000000 ≤ x ∧ x ≤ 2000000000) : 0 ≤ x * x ∧ x * x ≤ 4000000000000000000 := by
  have m := mul_bd (a := x) (b := x) (m := 2000000000) (n := 2000000000) (by omega) (by omega) (by omega) (by omega)
  have : 0 ≤ x * x := by
    rcases Int.le_total 0 x with h | h
    · exact Int.mul_nonneg h h
    · exact Int.mul_nonneg_of_nonpos_of_nonpos h h
  omega
theorem sq_pos {x : Int} (h : x ≠ 0) : 0 < x * x := by
  rcases Int.lt_or_gt_of_ne h with h | h
  · exact Int.mul_pos_of_neg_of_neg h h
  · exact Int.mul_pos h h
theorem over_pos {v d : Int} (h1 : 0 < v) (h2 : v ≤ 2000000000) (h3 : d ≤ 2000000000) : d ≤ 4000000000000000000 / v := by
  have : 2000000000 ≤ 4000000000000000000 / v := (Int.le_ediv_iff_mul_le h1).2 (by omega)
  omega
theorem over_neg {v d : Int} (h1 : -2000000000 ≤ v) (h2 : v < 0) (h3 : d ≤ 2000000000) : d ≤ RowKit.wrap64 (-Int.tdiv 4000000000000000000 v) ∧ d ≤ -(4000000000000000000 / v) := by
  obtain ⟨u, rfl⟩ : ∃ u, v = -u := ⟨-v, by omega⟩
  have h := over_pos (v := u) (by omega) (by omega) h3
  have h4 : 4000000000000000000 / u ≤ 4000000000000000000 := Int.ediv_le_self _ (by omega)
  have h5 : 0 ≤ 4000000000000000000 / u := Int.ediv_nonneg (by omega) (by omega)
  rw [Int.tdiv_neg, Int.neg_neg, Int.tdiv_eq_ediv_of_nonneg (by omega), Int.ediv_neg, Int.neg_neg]
  refine ⟨?_, h⟩
  unfold RowKit.wrap64
  omega
theorem big_quo {m d : Int} (h1 : 0 < m) (h2 : m ≤ 2000000000) (h3 : d ≤ 2000000000) : decide (4000000000000000000 / m < d) = false := by
  have : 2000000000 ≤ 4000000000000000000 / m := (Int.le_ediv_iff_mul_le h1).2 (by omega)
  simp only [decide_eq_false_iff_not]
  omega

set_option maxHeartbeats 2000000 in
theorem specTurned_any (x y z : Int) (w : World) (hx : -2000000000 ≤ x ∧ x ≤ 2000000000) (hy : -2000000000 ≤ y ∧ y ≤ 2000000000) (hz : 1 ≤ z ∧ z ≤ 2000000000) :
    Calls Tryd.prog 63 #[.agg #[.int .i64 x, .int .i64 y, .int .i64 z]] w (Gave (turnedF x y z) w) := by
  obtain ⟨sx0, sx1⟩ := sq_bd hx
  obtain ⟨sy0, sy1⟩ := sq_bd hy
  obtain ⟨g, hg⟩ : ∃ g : Nat, Int.gcd (x * x + y * y) z = g := ⟨_, rfl⟩
  have g1 : 0 < g := hg ▸ Int.gcd_pos_of_ne_zero_right _ (by omega)
  have g2 : (g : Int) ≤ z := by
    have := Int.gcd_le_natAbs_right (x * x + y * y) (b := z) (by omega)
    omega
  have C := Lib.hid fun w => specGcd_of (x * x + y * y) z g (by rw [hg]) (by omega) (by omega) w
  have d0 : 0 ≤ z / (g : Int) := Int.ediv_nonneg (by omega) (by omega)
  have d1 : z / (g : Int) ≤ 2000000000 := Int.le_trans (Int.ediv_le_self _ (by omega)) (by omega)
  by_cases hn : x * x + y * y = 0
  · have e : turnedF x y z = none := by unfold turnedF; rw [if_pos hn]
    rw [e]
    have hx0 : x = 0 := Decidable.byContradiction fun h => by have := sq_pos h; omega
    have hy0 : y = 0 := Decidable.byContradiction fun h => by have := sq_pos h; omega
    subst hx0 hy0
    clear e hn
    have C0 := Lib.hid fun w => specGcd_of 0 z g (by rw [← hg]; rfl) (by omega) (by omega) w
    clear C hg sx0 sx1 sy0 sy1 hx hy
    go_enter Tryd.func63, Tryd.ntmps63
    go_wp2_with fail
    refine (C0.out _).mono ?_
    rintro e w1 ⟨rfl, rfl⟩
    go_wp2_with fail
    refine bodyPost_ret (v := .tuple #[.agg #[.int .i64 0, .int .i64 0, .int .i64 0], .bool false]) (by simp [results, Tryd.results63, go_sem]) rfl ⟨rfl, ?_⟩
    show Acc w _
    (repeat' (first | assumption | exact Acc.refl _ | refine Acc.drew ?_ | refine Acc.alloc ?_ _ | refine Acc.setCell ?_ (by omega) _))
  · have e : turnedF x y z = lowF (x * (z / (g : Int))) (-(y * (z / (g : Int)))) ((x * x + y * y) / (g : Int)) := by unfold turnedF; rw [if_neg hn, hg]
    rw [e]
    have hne : (x * x + y * y == 0) = false := by simpa using hn
    have n1 : 1 ≤ (x * x + y * y) / (g : Int) := by
      have : (g : Int) ≤ x * x + y * y := by
        have := Int.gcd_le_natAbs_left z (a := x * x + y * y) (by omega)
        omega
      exact (Int.le_ediv_iff_mul_le (by omega)).2 (by omega)
    have n2 : (x * x + y * y) / (g : Int) ≤ 8000000000000000000 := Int.le_trans (Int.ediv_le_self _ (by omega)) (by omega)
    obtain ⟨m1, m2⟩ := mul_bd (a := x) (b := z / (g : Int)) (m := 2000000000) (n := 2000000000) (by omega) (by omega) (by omega) (by omega)
    obtain ⟨m3, m4⟩ := mul_bd (a := y) (b := z / (g : Int)) (m := 2000000000) (n := 2000000000) (by omega) (by omega) (by omega) (by omega)
    have m1 : -4000000000000000000 ≤ x * (z / (g : Int)) := by omega
    have m2 : x * (z / (g : Int)) ≤ 4000000000000000000 := by omega
    have m3 : -4000000000000000000 ≤ y * (z / (g : Int)) := by omega
    have m4 : y * (z / (g : Int)) ≤ 4000000000000000000 := by omega
    obtain ⟨o, ho⟩ : ∃ o, lowF (x * (z / (g : Int))) (-(y * (z / (g : Int)))) ((x * x + y * y) / (g : Int)) = o := ⟨_, rfl⟩
    rw [ho]
    have HO := Lib.hid ho
    clear ho
    have L := Lib.hid fun w => specLow_any (x * (z / (g : Int))) (-(y * (z / (g : Int)))) ((x * x + y * y) / (g : Int)) w (by omega) (by omega) (by omega)
    clear e hn hg
    have hg0 : ((g : Int) == 0) = false := by simp; omega
    have hgz : ¬ g = 0 := by omega
    have big : ∀ v : Int, -2000000000 ≤ v → v < 0 → (z / (g : Int) ≤ RowKit.wrap64 (-Int.tdiv 4000000000000000000 v) ∧ z / (g : Int) ≤ -(4000000000000000000 / v)) := fun v h1 h2 => over_neg h1 h2 d1
    have big2 : ∀ v : Int, v ≤ 2000000000 → 0 < v → z / (g : Int) ≤ 4000000000000000000 / v := fun v h1 h2 => over_pos h2 h1 d1
    have U1 := Lib.hid (IntWalk.i64_in (x * (z / (g : Int))) (by omega))
    have U2 := Lib.hid (IntWalk.i64_in (y * (z / (g : Int))) (by omega))
    have U3 := Lib.hid (IntWalk.i64_in (-(y * (z / (g : Int)))) (by omega))
    have U4 : Hid (IntKind.i64.wrap ((x * x + y * y).tdiv (g : Int)) = (x * x + y * y) / (g : Int)) := by
      rw [Int.tdiv_eq_ediv_of_nonneg (by omega)]
      exact Lib.hid (IntWalk.i64_in _ (by omega))
    rcases Int.lt_trichotomy x 0 with hx3 | hx3 | hx3 <;> rcases Int.lt_trichotomy y 0 with hy3 | hy3 | hy3
    case inl.inl =>
      obtain ⟨X1, X2⟩ := big x hx.1 hx3
      have X0 : (x != 0) = true := by simp; omega
      obtain ⟨Y1, Y2⟩ := big y hy.1 hy3
      have Y0 : (y != 0) = true := by simp; omega
      clear big big2
      go_enter Tryd.func63, Tryd.ntmps63
      go_wp2_with fail
      refine (C.out _).mono ?_
      rintro e w1 ⟨rfl, rfl⟩
      go_wp2_with fail
      go_region_held3 (fun w' => w'.cell? ⟨w.heap.size, 0, none⟩ = some (.int .i64 x) ∧ w'.cell? ⟨w.heap.size, 1, none⟩ = some (.int .i64 y) ∧ w'.cell? ⟨w.heap.size, 2, none⟩ = some (.int .i64 z)) (first | (go_keep; done) | ((try dsimp only); (repeat' apply And.intro) <;> first | (go_keep; done) | (simp (disch := omega) [cell_other, *]; done)))
        (first
          | (go_at_call 56; rw [U1.out, U2.out, U3.out, U4.out]; refine (L.out _).mono ?_; rw [HO.out]; rintro e w' ⟨rfl, hb⟩; obtain ⟨q00, q01, q02⟩ := keep3 hb (b := w.heap.size) (x := .int .i64 x) (y := .int .i64 y) (z := .int .i64 z) (by go_simp); have kb0 : w.heap.size < w'.heap.size := World.block_lt_of_cell? _ _ q00; obtain ⟨r0, r1, r2⟩ := keep3 hb (b := w.heap.size + 1) (x := .int .i64 0) (y := .int .i64 0) (z := .int .i64 0) (by go_simp); have kz : w.heap.size + 1 < w'.heap.size := World.block_lt_of_cell? _ _ r0; obtain ⟨f0, f1, f2⟩ := keepf3 hb (b := w.heap.size + 1) (by go_simp) (by go_simp); refine with_fact (A := Acc w w') ?_ ?_; (focus (refine Acc.call ?_ hb; (repeat' (first | assumption | exact Acc.refl _ | refine Acc.drew ?_ | refine Acc.alloc ?_ _ | refine Acc.setCell ?_ (by omega) _)))); intro haw'; clear hb; rw [resV_eq]))
      all_goals
        go_wp2_with fail
        refine bodyPost_ret (v := .tuple #[.agg #[.int .i64 (partsR o).1, .int .i64 (partsR o).2.1, .int .i64 (partsR o).2.2], .bool (okR o)]) (by simp [results, Tryd.results63, go_sem, r0, r1, r2]) rfl ⟨by rw [resV_eq], ?_⟩
        show Acc w _
        (repeat' (first | assumption | exact Acc.refl _ | refine Acc.drew ?_ | refine Acc.alloc ?_ _ | refine Acc.setCell ?_ (by omega) _))
    case inl.inr.inl =>
      obtain ⟨X1, X2⟩ := big x hx.1 hx3
      have X0 : (x != 0) = true := by simp; omega
      have Y0 : (y != 0) = false := by simp [hy3]
      clear hy3
      clear big big2
      go_enter Tryd.func63, Tryd.ntmps63
      go_wp2_with fail
      refine (C.out _).mono ?_
      rintro e w1 ⟨rfl, rfl⟩
      go_wp2_with fail
      go_region_held3 (fun w' => w'.cell? ⟨w.heap.size, 0, none⟩ = some (.int .i64 x) ∧ w'.cell? ⟨w.heap.size, 1, none⟩ = some (.int .i64 y) ∧ w'.cell? ⟨w.heap.size, 2, none⟩ = some (.int .i64 z)) (first | (go_keep; done) | ((try dsimp only); (repeat' apply And.intro) <;> first | (go_keep; done) | (simp (disch := omega) [cell_other, *]; done)))
        (first
          | (go_at_call 56; rw [U1.out, U2.out, U3.out, U4.out]; refine (L.out _).mono ?_; rw [HO.out]; rintro e w' ⟨rfl, hb⟩; obtain ⟨q00, q01, q02⟩ := keep3 hb (b := w.heap.size) (x := .int .i64 x) (y := .int .i64 y) (z := .int .i64 z) (by go_simp); have kb0 : w.heap.size < w'.heap.size := World.block_lt_of_cell? _ _ q00; obtain ⟨r0, r1, r2⟩ := keep3 hb (b := w.heap.size + 1) (x := .int .i64 0) (y := .int .i64 0) (z := .int .i64 0) (by go_simp); have kz : w.heap.size + 1 < w'.heap.size := World.block_lt_of_cell? _ _ r0; obtain ⟨f0, f1, f2⟩ := keepf3 hb (b := w.heap.size + 1) (by go_simp) (by go_simp); refine with_fact (A := Acc w w') ?_ ?_; (focus (refine Acc.call ?_ hb; (repeat' (first | assumption | exact Acc.refl _ | refine Acc.drew ?_ | refine Acc.alloc ?_ _ | refine Acc.setCell ?_ (by omega) _)))); intro haw'; clear hb; rw [resV_eq]))
      all_goals
        go_wp2_with fail
        refine bodyPost_ret (v := .tuple #[.agg #[.int .i64 (partsR o).1, .int .i64 (partsR o).2.1, .int .i64 (partsR o).2.2], .bool (okR o)]) (by simp [results, Tryd.results63, go_sem, r0, r1, r2]) rfl ⟨by rw [resV_eq], ?_⟩
        show Acc w _
        (repeat' (first | assumption | exact Acc.refl _ | refine Acc.drew ?_ | refine Acc.alloc ?_ _ | refine Acc.setCell ?_ (by omega) _))
    case inl.inr.inr =>
      obtain ⟨X1, X2⟩ := big x hx.1 hx3
      have X0 : (x != 0) = true := by simp; omega
      have Y1 := big2 y hy.2 hy3
      have Y0 : (y != 0) = true := by simp; omega
      clear big big2
      go_enter Tryd.func63, Tryd.ntmps63
      go_wp2_with fail
      refine (C.out _).mono ?_
      rintro e w1 ⟨rfl, rfl⟩
      go_wp2_with fail
      go_region_held3 (fun w' => w'.cell? ⟨w.heap.size, 0, none⟩ = some (.int .i64 x) ∧ w'.cell? ⟨w.heap.size, 1, none⟩ = some (.int .i64 y) ∧ w'.cell? ⟨w.heap.size, 2, none⟩ = some (.int .i64 z)) (first | (go_keep; done) | ((try dsimp only); (repeat' apply And.intro) <;> first | (go_keep; done) | (simp (disch := omega) [cell_other, *]; done)))
        (first
          | (go_at_call 56; rw [U1.out, U2.out, U3.out, U4.out]; refine (L.out _).mono ?_; rw [HO.out]; rintro e w' ⟨rfl, hb⟩; obtain ⟨q00, q01, q02⟩ := keep3 hb (b := w.heap.size) (x := .int .i64 x) (y := .int .i64 y) (z := .int .i64 z) (by go_simp); have kb0 : w.heap.size < w'.heap.size := World.block_lt_of_cell? _ _ q00; obtain ⟨r0, r1, r2⟩ := keep3 hb (b := w.heap.size + 1) (x := .int .i64 0) (y := .int .i64 0) (z := .int .i64 0) (by go_simp); have kz : w.heap.size + 1 < w'.heap.size := World.block_lt_of_cell? _ _ r0; obtain ⟨f0, f1, f2⟩ := keepf3 hb (b := w.heap.size + 1) (by go_simp) (by go_simp); refine with_fact (A := Acc w w') ?_ ?_; (focus (refine Acc.call ?_ hb; (repeat' (first | assumption | exact Acc.refl _ | refine Acc.drew ?_ | refine Acc.alloc ?_ _ | refine Acc.setCell ?_ (by omega) _)))); intro haw'; clear hb; rw [resV_eq]))
      all_goals
        go_wp2_with fail
        refine bodyPost_ret (v := .tuple #[.agg #[.int .i64 (partsR o).1, .int .i64 (partsR o).2.1, .int .i64 (partsR o).2.2], .bool (okR o)]) (by simp [results, Tryd.results63, go_sem, r0, r1, r2]) rfl ⟨by rw [resV_eq], ?_⟩
        show Acc w _
        (repeat' (first | assumption | exact Acc.refl _ | refine Acc.drew ?_ | refine Acc.alloc ?_ _ | refine Acc.setCell ?_ (by omega) _))
    case inr.inl.inl =>
      have X0 : (x != 0) = false := by simp [hx3]
      clear hx3
      obtain ⟨Y1, Y2⟩ := big y hy.1 hy3
      have Y0 : (y != 0) = true := by simp; omega
      clear big big2
      go_enter Tryd.func63, Tryd.ntmps63
      go_wp2_with fail
      refine (C.out _).mono ?_
      rintro e w1 ⟨rfl, rfl⟩
      go_wp2_with fail
      go_region_held3 (fun w' => w'.cell? ⟨w.heap.size, 0, none⟩ = some (.int .i64 x) ∧ w'.cell? ⟨w.heap.size, 1, none⟩ = some (.int .i64 y) ∧ w'.cell? ⟨w.heap.size, 2, none⟩ = some (.int .i64 z)) (first | (go_keep; done) | ((try dsimp only); (repeat' apply And.intro) <;> first | (go_keep; done) | (simp (disch := omega) [cell_other, *]; done)))
        (first
          | (go_at_call 56; rw [U1.out, U2.out, U3.out, U4.out]; refine (L.out _).mono ?_; rw [HO.out]; rintro e w' ⟨rfl, hb⟩; obtain ⟨q00, q01, q02⟩ := keep3 hb (b := w.heap.size) (x := .int .i64 x) (y := .int .i64 y) (z := .int .i64 z) (by go_simp); have kb0 : w.heap.size < w'.heap.size := World.block_lt_of_cell? _ _ q00; obtain ⟨r0, r1, r2⟩ := keep3 hb (b := w.heap.size + 1) (x := .int .i64 0) (y := .int .i64 0) (z := .int .i64 0) (by go_simp); have kz : w.heap.size + 1 < w'.heap.size := World.block_lt_of_cell? _ _ r0; obtain ⟨f0, f1, f2⟩ := keepf3 hb (b := w.heap.size + 1) (by go_simp) (by go_simp); refine with_fact (A := Acc w w') ?_ ?_; (focus (refine Acc.call ?_ hb; (repeat' (first | assumption | exact Acc.refl _ | refine Acc.drew ?_ | refine Acc.alloc ?_ _ | refine Acc.setCell ?_ (by omega) _)))); intro haw'; clear hb; rw [resV_eq]))
      all_goals
        go_wp2_with fail
        refine bodyPost_ret (v := .tuple #[.agg #[.int .i64 (partsR o).1, .int .i64 (partsR o).2.1, .int .i64 (partsR o).2.2], .bool (okR o)]) (by simp [results, Tryd.results63, go_sem, r0, r1, r2]) rfl ⟨by rw [resV_eq], ?_⟩
        show Acc w _
        (repeat' (first | assumption | exact Acc.refl _ | refine Acc.drew ?_ | refine Acc.alloc ?_ _ | refine Acc.setCell ?_ (by omega) _))
    case inr.inl.inr.inl =>
      exfalso
      subst hx3 hy3
      simp at hne
    case inr.inl.inr.inr =>
      have X0 : (x != 0) = false := by simp [hx3]
      clear hx3
      have Y1 := big2 y hy.2 hy3
      have Y0 : (y != 0) = true := by simp; omega
      clear big big2
      go_enter Tryd.func63, Tryd.ntmps63
      go_wp2_with fail
      refine (C.out _).mono ?_
      rintro e w1 ⟨rfl, rfl⟩
      go_wp2_with fail
      go_region_held3 (fun w' => w'.cell? ⟨w.heap.size, 0, none⟩ = some (.int .i64 x) ∧ w'.cell? ⟨w.heap.size, 1, none⟩ = some (.int .i64 y) ∧ w'.cell? ⟨w.heap.size, 2, none⟩ = some (.int .i64 z)) (first | (go_keep; done) | ((try dsimp only); (repeat' apply And.intro) <;> first | (go_keep; done) | (simp (disch := omega) [cell_other, *]; done)))
        (first
          | (go_at_call 56; rw [U1.out, U2.out, U3.out, U4.out]; refine (L.out _).mono ?_; rw [HO.out]; rintro e w' ⟨rfl, hb⟩; obtain ⟨q00, q01, q02⟩ := keep3 hb (b := w.heap.size) (x := .int .i64 x) (y := .int .i64 y) (z := .int .i64 z) (by go_simp); have kb0 : w.heap.size < w'.heap.size := World.block_lt_of_cell? _ _ q00; obtain ⟨r0, r1, r2⟩ := keep3 hb (b := w.heap.size + 1) (x := .int .i64 0) (y := .int .i64 0) (z := .int .i64 0) (by go_simp); have kz : w.heap.size + 1 < w'.heap.size := World.block_lt_of_cell? _ _ r0; obtain ⟨f0, f1, f2⟩ := keepf3 hb (b := w.heap.size + 1) (by go_simp) (by go_simp); refine with_fact (A := Acc w w') ?_ ?_; (focus (refine Acc.call ?_ hb; (repeat' (first | assumption | exact Acc.refl _ | refine Acc.drew ?_ | refine Acc.alloc ?_ _ | refine Acc.setCell ?_ (by omega) _)))); intro haw'; clear hb; rw [resV_eq]))
      all_goals
        go_wp2_with fail
        refine bodyPost_ret (v := .tuple #[.agg #[.int .i64 (partsR o).1, .int .i64 (partsR o).2.1, .int .i64 (partsR o).2.2], .bool (okR o)]) (by simp [results, Tryd.results63, go_sem, r0, r1, r2]) rfl ⟨by rw [resV_eq], ?_⟩
        show Acc w _
        (repeat' (first | assumption | exact Acc.refl _ | refine Acc.drew ?_ | refine Acc.alloc ?_ _ | refine Acc.setCell ?_ (by omega) _))
    case inr.inr.inl =>
      have X1 := big2 x hx.2 hx3
      have X0 : (x != 0) = true := by simp; omega
      obtain ⟨Y1, Y2⟩ := big y hy.1 hy3
      have Y0 : (y != 0) = true := by simp; omega
      clear big big2
      go_enter Tryd.func63, Tryd.ntmps63
      go_wp2_with fail
      refine (C.out _).mono ?_
      rintro e w1 ⟨rfl, rfl⟩
      go_wp2_with fail
      go_region_held3 (fun w' => w'.cell? ⟨w.heap.size, 0, none⟩ = some (.int .i64 x) ∧ w'.cell? ⟨w.heap.size, 1, none⟩ = some (.int .i64 y) ∧ w'.cell? ⟨w.heap.size, 2, none⟩ = some (.int .i64 z)) (first | (go_keep; done) | ((try dsimp only); (repeat' apply And.intro) <;> first | (go_keep; done) | (simp (disch := omega) [cell_other, *]; done)))
        (first
          | (go_at_call 56; rw [U1.out, U2.out, U3.out, U4.out]; refine (L.out _).mono ?_; rw [HO.out]; rintro e w' ⟨rfl, hb⟩; obtain ⟨q00, q01, q02⟩ := keep3 hb (b := w.heap.size) (x := .int .i64 x) (y := .int .i64 y) (z := .int .i64 z) (by go_simp); have kb0 : w.heap.size < w'.heap.size := World.block_lt_of_cell? _ _ q00; obtain ⟨r0, r1, r2⟩ := keep3 hb (b := w.heap.size + 1) (x := .int .i64 0) (y := .int .i64 0) (z := .int .i64 0) (by go_simp); have kz : w.heap.size + 1 < w'.heap.size := World.block_lt_of_cell? _ _ r0; obtain ⟨f0, f1, f2⟩ := keepf3 hb (b := w.heap.size + 1) (by go_simp) (by go_simp); refine with_fact (A := Acc w w') ?_ ?_; (focus (refine Acc.call ?_ hb; (repeat' (first | assumption | exact Acc.refl _ | refine Acc.drew ?_ | refine Acc.alloc ?_ _ | refine Acc.setCell ?_ (by omega) _)))); intro haw'; clear hb; rw [resV_eq]))
      all_goals
        go_wp2_with fail
        refine bodyPost_ret (v := .tuple #[.agg #[.int .i64 (partsR o).1, .int .i64 (partsR o).2.1, .int .i64 (partsR o).2.2], .bool (okR o)]) (by simp [results, Tryd.results63, go_sem, r0, r1, r2]) rfl ⟨by rw [resV_eq], ?_⟩
        show Acc w _
        (repeat' (first | assumption | exact Acc.refl _ | refine Acc.drew ?_ | refine Acc.alloc ?_ _ | refine Acc.setCell ?_ (by omega) _))
    case inr.inr.inr.inl =>
      have X1 := big2 x hx.2 hx3
      have X0 : (x != 0) = true := by simp; omega
      have Y0 : (y != 0) = false := by simp [hy3]
      clear hy3
      clear big big2
      go_enter Tryd.func63, Tryd.ntmps63
      go_wp2_with fail
      refine (C.out _).mono ?_
      rintro e w1 ⟨rfl, rfl⟩
      go_wp2_with fail
      go_region_held3 (fun w' => w'.cell? ⟨w.heap.size, 0, none⟩ = some (.int .i64 x) ∧ w'.cell? ⟨w.heap.size, 1, none⟩ = some (.int .i64 y) ∧ w'.cell? ⟨w.heap.size, 2, none⟩ = some (.int .i64 z)) (first | (go_keep; done) | ((try dsimp only); (repeat' apply And.intro) <;> first | (go_keep; done) | (simp (disch := omega) [cell_other, *]; done)))
        (first
          | (go_at_call 56; rw [U1.out, U2.out, U3.out, U4.out]; refine (L.out _).mono ?_; rw [HO.out]; rintro e w' ⟨rfl, hb⟩; obtain ⟨q00, q01, q02⟩ := keep3 hb (b := w.heap.size) (x := .int .i64 x) (y := .int .i64 y) (z := .int .i64 z) (by go_simp); have kb0 : w.heap.size < w'.heap.size := World.block_lt_of_cell? _ _ q00; obtain ⟨r0, r1, r2⟩ := keep3 hb (b := w.heap.size + 1) (x := .int .i64 0) (y := .int .i64 0) (z := .int .i64 0) (by go_simp); have kz : w.heap.size + 1 < w'.heap.size := World.block_lt_of_cell? _ _ r0; obtain ⟨f0, f1, f2⟩ := keepf3 hb (b := w.heap.size + 1) (by go_simp) (by go_simp); refine with_fact (A := Acc w w') ?_ ?_; (focus (refine Acc.call ?_ hb; (repeat' (first | assumption | exact Acc.refl _ | refine Acc.drew ?_ | refine Acc.alloc ?_ _ | refine Acc.setCell ?_ (by omega) _)))); intro haw'; clear hb; rw [resV_eq]))
      all_goals
        go_wp2_with fail
        refine bodyPost_ret (v := .tuple #[.agg #[.int .i64 (partsR o).1, .int .i64 (partsR o).2.1, .int .i64 (partsR o).2.2], .bool (okR o)]) (by simp [results, Tryd.results63, go_sem, r0, r1, r2]) rfl ⟨by rw [resV_eq], ?_⟩
        show Acc w _
        (repeat' (first | assumption | exact Acc.refl _ | refine Acc.drew ?_ | refine Acc.alloc ?_ _ | refine Acc.setCell ?_ (by omega) _))
    case inr.inr.inr.inr =>
      have X1 := big2 x hx.2 hx3
      have X0 : (x != 0) = true := by simp; omega
      have Y1 := big2 y hy.2 hy3
      have Y0 : (y != 0) = true := by simp; omega
      clear big big2
      go_enter Tryd.func63, Tryd.ntmps63
      go_wp2_with fail
      refine (C.out _).mono ?_
      rintro e w1 ⟨rfl, rfl⟩
      go_wp2_with fail
      go_region_held3 (fun w' => w'.cell? ⟨w.heap.size, 0, none⟩ = some (.int .i64 x) ∧ w'.cell? ⟨w.heap.size, 1, none⟩ = some (.int .i64 y) ∧ w'.cell? ⟨w.heap.size, 2, none⟩ = some (.int .i64 z)) (first | (go_keep; done) | ((try dsimp only); (repeat' apply And.intro) <;> first | (go_keep; done) | (simp (disch := omega) [cell_other, *]; done)))
        (first
          | (go_at_call 56; rw [U1.out, U2.out, U3.out, U4.out]; refine (L.out _).mono ?_; rw [HO.out]; rintro e w' ⟨rfl, hb⟩; obtain ⟨q00, q01, q02⟩ := keep3 hb (b := w.heap.size) (x := .int .i64 x) (y := .int .i64 y) (z := .int .i64 z) (by go_simp); have kb0 : w.heap.size < w'.heap.size := World.block_lt_of_cell? _ _ q00; obtain ⟨r0, r1, r2⟩ := keep3 hb (b := w.heap.size + 1) (x := .int .i64 0) (y := .int .i64 0) (z := .int .i64 0) (by go_simp); have kz : w.heap.size + 1 < w'.heap.size := World.block_lt_of_cell? _ _ r0; obtain ⟨f0, f1, f2⟩ := keepf3 hb (b := w.heap.size + 1) (by go_simp) (by go_simp); refine with_fact (A := Acc w w') ?_ ?_; (focus (refine Acc.call ?_ hb; (repeat' (first | assumption | exact Acc.refl _ | refine Acc.drew ?_ | refine Acc.alloc ?_ _ | refine Acc.setCell ?_ (by omega) _)))); intro haw'; clear hb; rw [resV_eq]))
      all_goals
        go_wp2_with fail
        refine bodyPost_ret (v := .tuple #[.agg #[.int .i64 (partsR o).1, .int .i64 (partsR o).2.1, .int .i64 (partsR o).2.2], .bool (okR o)]) (by simp [results, Tryd.results63, go_sem, r0, r1, r2]) rfl ⟨by rw [resV_eq], ?_⟩
        show Acc w _
        (repeat' (first | assumption | exact Acc.refl _ | refine Acc.drew ?_ | refine Acc.alloc ?_ _ | refine Acc.setCell ?_ (by omega) _))
end Go.Proofs.YtpbibfefcepeiaaDoor
