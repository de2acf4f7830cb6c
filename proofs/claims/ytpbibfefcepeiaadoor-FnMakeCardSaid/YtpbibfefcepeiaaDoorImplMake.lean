/-
  The program's FracMake.
-/
import Derived.Test.YtpbibfefcepeiaaDoorImplRest
import Derived.Test.YtpbibfefcepeiaaDoorSpecMake
namespace Go.Proofs.YtpbibfefcepeiaaDoor
open Go.ChangeShapes Go.WideShapes Go.ChangeAt Go.RowKit
set_option linter.unusedVariables false

theorem makeF_eq (re im den : Int) : makeF re im den = if (re ≤ 1000000000000000000 ∧ im ≤ 1000000000000000000 ∧ den ≤ 1000000000000000000) ∧ (-1000000000000000000 ≤ re ∧ -1000000000000000000 ≤ im ∧ -1000000000000000000 ≤ den) then lowE re im den else none := by
  unfold makeF lowE inB
  by_cases h1 : den < 1
  · rw [if_pos h1, if_neg (by simp only [Bool.and_eq_true, decide_eq_true_eq]; omega)]
    split <;> rfl
  · rw [if_neg h1]
    by_cases h2 : (re ≤ 1000000000000000000 ∧ im ≤ 1000000000000000000 ∧ den ≤ 1000000000000000000) ∧ (-1000000000000000000 ≤ re ∧ -1000000000000000000 ≤ im ∧ -1000000000000000000 ≤ den)
    · rw [if_pos h2, if_pos (by simp only [Bool.and_eq_true, decide_eq_true_eq]; omega)]
    · rw [if_neg h2, if_neg (by simp only [Bool.and_eq_true, decide_eq_true_eq]; omega)]
set_option maxHeartbeats 4000000 in
theorem implMake_any (re im den : Int) (h1 : i64B re) (h2 : i64B im) (h3 : i64B den) (w : World) (hl : Laid w) :
    Calls Tryd.prog 16 #[.int .i64 re, .int .i64 im, .int .i64 den] w (Gave (makeF re im den) w) := by
  rw [makeF_eq]
  have HL := Lib.hid fun W (k : Acc w W) => hl.acc k
  have C := Lib.hid fun w => lowest_any re im den w h1 h2 h3
  clear hl h1 h2 h3
  by_cases hk : (re ≤ 1000000000000000000 ∧ im ≤ 1000000000000000000 ∧ den ≤ 1000000000000000000) ∧ (-1000000000000000000 ≤ re ∧ -1000000000000000000 ≤ im ∧ -1000000000000000000 ≤ den)
  · rw [if_pos hk]
    obtain ⟨⟨k1, k2, k3⟩, k4, k5, k6⟩ := hk
    cases ho : lowE re im den with
    | none =>
      have D := Lib.hid fun w => (C.out w).mono fun e w' h => (⟨h.2.1 ho, h.2.2⟩ : _ ∧ _)
      clear C ho
      go_enter Tryd.func16, Tryd.ntmps16
      go_wp2_with fail
      all_goals
        refine (D.out _).mono ?_
        rintro e w1 ⟨⟨s, rfl⟩, hb⟩
        obtain ⟨r0, r1, r2⟩ := keep3 hb (b := w.heap.size) (x := .int .i64 0) (y := .int .i64 0) (z := .int .i64 0) (by go_simp)
        have kz : w.heap.size < w1.heap.size := World.block_lt_of_cell? _ _ r0
        obtain ⟨f0, f1, f2⟩ := keepf3 hb (b := w.heap.size) (by go_simp) (by go_simp)
        have haw1 : Acc w w1 := by
          refine Acc.call ?_ hb
          (repeat' (first | assumption | exact Acc.refl _ | refine Acc.drew ?_ | refine Acc.alloc ?_ _ | refine Acc.setCell ?_ (by omega) _))
        clear hb
        go_wp2_with fail
        refine (toldFrac_err _ _ _ s _ (HL.out _ (by repeat' (first | assumption | exact Acc.refl _ | refine Acc.drew ?_ | refine Acc.alloc ?_ _ | refine Acc.setCell ?_ (by omega) _)))).mono ?_
        rintro e w2 ⟨rfl, hb⟩
        obtain ⟨r0, r1, r2⟩ := keep3 hb (b := w.heap.size) (x := .int .i64 0) (y := .int .i64 0) (z := .int .i64 0) (by go_simp)
        have kz : w.heap.size < w2.heap.size := World.block_lt_of_cell? _ _ r0
        obtain ⟨f0, f1, f2⟩ := keepf3 hb (b := w.heap.size) (by go_simp) (by go_simp)
        have haw2 : Acc w w2 := by
          refine Acc.call ?_ hb
          (repeat' (first | assumption | exact Acc.refl _ | refine Acc.drew ?_ | refine Acc.alloc ?_ _ | refine Acc.setCell ?_ (by omega) _))
        clear hb
        simp only [resV]
        go_wp2_with fail
        refine bodyPost_ret (v := .tuple #[.agg #[.int .i64 0, .int .i64 0, .int .i64 0], .bool false]) (by simp [results, Tryd.results16, go_sem, r0, r1, r2]) rfl ⟨rfl, ?_⟩
        show Acc w _
        (repeat' (first | assumption | exact Acc.refl _ | refine Acc.drew ?_ | refine Acc.alloc ?_ _ | refine Acc.setCell ?_ (by omega) _))
    | some v =>
      obtain ⟨p, q, r⟩ := v
      have D := Lib.hid fun w => (C.out w).mono fun e w' h => (⟨h.1 _ _ _ ho, h.2.2⟩ : _ ∧ _)
      clear C ho
      go_enter Tryd.func16, Tryd.ntmps16
      go_wp2_with fail
      all_goals
        refine (D.out _).mono ?_
        rintro e w1 ⟨rfl, hb⟩
        obtain ⟨r0, r1, r2⟩ := keep3 hb (b := w.heap.size) (x := .int .i64 0) (y := .int .i64 0) (z := .int .i64 0) (by go_simp)
        have kz : w.heap.size < w1.heap.size := World.block_lt_of_cell? _ _ r0
        obtain ⟨f0, f1, f2⟩ := keepf3 hb (b := w.heap.size) (by go_simp) (by go_simp)
        have haw1 : Acc w w1 := by
          refine Acc.call ?_ hb
          (repeat' (first | assumption | exact Acc.refl _ | refine Acc.drew ?_ | refine Acc.alloc ?_ _ | refine Acc.setCell ?_ (by omega) _))
        clear hb
        go_wp2_with fail
        refine (toldFrac_ok p q r _).mono ?_
        rintro e w2 ⟨rfl, hb⟩
        obtain ⟨r0, r1, r2⟩ := keep3 hb (b := w.heap.size) (x := .int .i64 0) (y := .int .i64 0) (z := .int .i64 0) (by go_simp)
        have kz : w.heap.size < w2.heap.size := World.block_lt_of_cell? _ _ r0
        obtain ⟨f0, f1, f2⟩ := keepf3 hb (b := w.heap.size) (by go_simp) (by go_simp)
        have haw2 : Acc w w2 := by
          refine Acc.call ?_ hb
          (repeat' (first | assumption | exact Acc.refl _ | refine Acc.drew ?_ | refine Acc.alloc ?_ _ | refine Acc.setCell ?_ (by omega) _))
        clear hb
        simp only [resV]
        go_wp2_with fail
        refine bodyPost_ret (v := .tuple #[.agg #[.int .i64 p, .int .i64 q, .int .i64 r], .bool true]) (by simp [results, Tryd.results16, go_sem, r0, r1, r2]) rfl ⟨rfl, ?_⟩
        show Acc w _
        (repeat' (first | assumption | exact Acc.refl _ | refine Acc.drew ?_ | refine Acc.alloc ?_ _ | refine Acc.setCell ?_ (by omega) _))
  · rw [if_neg hk]
    go_enter Tryd.func16, Tryd.ntmps16
    go_wp2_with fail
    all_goals
      first
        | (exfalso; omega)
        | (refine bodyPost_ret (v := .tuple #[.agg #[.int .i64 0, .int .i64 0, .int .i64 0], .bool false]) (by simp [results, Tryd.results16, go_sem]) rfl ⟨rfl, ?_⟩; show Acc w _; (repeat' (first | assumption | exact Acc.refl _ | refine Acc.drew ?_ | refine Acc.alloc ?_ _ | refine Acc.setCell ?_ (by omega) _)))
end Go.Proofs.YtpbibfefcepeiaaDoor
