/-
  The exact law of FracCompare, out of both contracts.
-/
import Derived.Test.YtmhoppjekiiheaaDoorLawEq
import Derived.Test.YtmhoppjekiiheaaDoorSpecPower
namespace Go.Proofs.YtmhoppjekiiheaaDoor
open Go.ChangeShapes Go.WideShapes Go.ChangeAt Go.RowKit
set_option linter.unusedVariables false

set_option maxHeartbeats 3000000 in
theorem exactFracCompare (o : Option Int) (x y z a b c : Int)
    (hs : ∀ w, Calls Tryd.prog 37 #[.agg #[.int .i64 x, .int .i64 y, .int .i64 z], .agg #[.int .i64 a, .int .i64 b, .int .i64 c]] w fun e w' => e = .returned (cmpV o) ∧ Below w.heap.size w w')
    (w : World) (hi : ∀ W, Acc w W → Calls Tryd.prog 38 #[.agg #[.int .i64 x, .int .i64 y, .int .i64 z], .agg #[.int .i64 a, .int .i64 b, .int .i64 c]] W fun e w' => e = .returned (cmpV o) ∧ Below W.heap.size W w') :
    Calls Tryd.prog 12 #[.agg #[.int .i64 x, .int .i64 y, .int .i64 z], .agg #[.int .i64 a, .int .i64 b, .int .i64 c]] w (Fine w) := by
  obtain ⟨r, k, e⟩ : ∃ r k, cmpV o = .tuple #[.int .i64 r, .bool k] := by cases o <;> exact ⟨_, _, rfl⟩
  rw [e] at hs hi
  have HS := Lib.hid hs
  have HI := Lib.hid hi
  clear hs hi e
  go_enter Tryd.func12, Tryd.ntmps12
  go_upto_region 1 with fail
  go_cut [5, 6] (fun s5 s6 wx => s5 = .int .i64 r ∧ s6 = .bool k ∧ (wx.cell? ⟨w.heap.size, 0, none⟩ = some (.int .i64 x) ∧ wx.cell? ⟨w.heap.size, 1, none⟩ = some (.int .i64 y) ∧ wx.cell? ⟨w.heap.size, 2, none⟩ = some (.int .i64 z)) ∧ (wx.cell? ⟨w.heap.size + 1, 0, none⟩ = some (.int .i64 a) ∧ wx.cell? ⟨w.heap.size + 1, 1, none⟩ = some (.int .i64 b) ∧ wx.cell? ⟨w.heap.size + 1, 2, none⟩ = some (.int .i64 c)) ∧ Acc w wx)
  case first =>
    go_region_held3 (fun w' => w'.cell? ⟨w.heap.size, 0, none⟩ = some (.int .i64 x) ∧ w'.cell? ⟨w.heap.size, 1, none⟩ = some (.int .i64 y) ∧ w'.cell? ⟨w.heap.size, 2, none⟩ = some (.int .i64 z) ∧ w'.cell? ⟨w.heap.size + 1, 0, none⟩ = some (.int .i64 a) ∧ w'.cell? ⟨w.heap.size + 1, 1, none⟩ = some (.int .i64 b) ∧ w'.cell? ⟨w.heap.size + 1, 2, none⟩ = some (.int .i64 c)) (first | (go_keep; done) | ((try dsimp only); (repeat' apply And.intro) <;> first | (go_keep; done) | (simp (disch := omega) [cell_other, *]; done)))
    (first
      | (go_at_call_of 20 (Value.int IntKind.i64 x); refine (toFrac_any x y z _).mono ?_; rintro e w' ⟨rfl, hb⟩; obtain ⟨q00, q01, q02⟩ := keep3 hb (b := w.heap.size) (x := .int .i64 x) (y := .int .i64 y) (z := .int .i64 z) (by go_simp); have kb0 : w.heap.size < w'.heap.size := World.block_lt_of_cell? _ _ q00; obtain ⟨q10, q11, q12⟩ := keep3 hb (b := w.heap.size + 1) (x := .int .i64 a) (y := .int .i64 b) (z := .int .i64 c) (by go_simp); have kb1 : w.heap.size + 1 < w'.heap.size := World.block_lt_of_cell? _ _ q10; refine with_fact (A := Acc w w') ?_ ?_; (focus (refine Acc.call ?_ hb; (repeat' (first | assumption | exact Acc.refl _ | refine Acc.drew ?_ | refine Acc.alloc ?_ _ | refine Acc.setCell ?_ (by omega) _)))); intro ha; clear hb)
      | (go_at_call_of 20 (Value.int IntKind.i64 a); refine (toFrac_any a b c _).mono ?_; rintro e w' ⟨rfl, hb⟩; obtain ⟨q00, q01, q02⟩ := keep3 hb (b := w.heap.size) (x := .int .i64 x) (y := .int .i64 y) (z := .int .i64 z) (by go_simp); have kb0 : w.heap.size < w'.heap.size := World.block_lt_of_cell? _ _ q00; obtain ⟨q10, q11, q12⟩ := keep3 hb (b := w.heap.size + 1) (x := .int .i64 a) (y := .int .i64 b) (z := .int .i64 c) (by go_simp); have kb1 : w.heap.size + 1 < w'.heap.size := World.block_lt_of_cell? _ _ q10; refine with_fact (A := Acc w w') ?_ ?_; (focus (refine Acc.call ?_ hb; (repeat' (first | assumption | exact Acc.refl _ | refine Acc.drew ?_ | refine Acc.alloc ?_ _ | refine Acc.setCell ?_ (by omega) _)))); intro ha; clear hb)
      | (go_at_call 37; refine (HS.out _).mono ?_; rintro e w' ⟨rfl, hb⟩; obtain ⟨q00, q01, q02⟩ := keep3 hb (b := w.heap.size) (x := .int .i64 x) (y := .int .i64 y) (z := .int .i64 z) (by go_simp); have kb0 : w.heap.size < w'.heap.size := World.block_lt_of_cell? _ _ q00; obtain ⟨q10, q11, q12⟩ := keep3 hb (b := w.heap.size + 1) (x := .int .i64 a) (y := .int .i64 b) (z := .int .i64 c) (by go_simp); have kb1 : w.heap.size + 1 < w'.heap.size := World.block_lt_of_cell? _ _ q10; refine with_fact (A := Acc w w') ?_ ?_; (focus (refine Acc.call ?_ hb; (repeat' (first | assumption | exact Acc.refl _ | refine Acc.drew ?_ | refine Acc.alloc ?_ _ | refine Acc.setCell ?_ (by omega) _)))); intro ha; clear hb))
    all_goals
      go_wp2_with fail
      go_meet
      exact ⟨rfl, rfl, ⟨by assumption, by assumption, by assumption⟩, ⟨by assumption, by assumption, by assumption⟩, by assumption⟩
  case rest =>
    obtain ⟨rfl, rfl, ⟨q0, q1, q2⟩, ⟨q3, q4, q5⟩, ha⟩ := hcut
    have hz0 : w.heap.size < wc.heap.size := World.block_lt_of_cell? _ _ q0
    have hz1 : w.heap.size + 1 < wc.heap.size := World.block_lt_of_cell? _ _ q3
    go_upto_region 2 with fail
    go_cut [7, 8] (fun s7 s8 wx => s7 = .int .i64 r ∧ s8 = .bool k ∧ Acc w wx)
    case first =>
      go_region_held3 (fun w' => w'.cell? ⟨w.heap.size, 0, none⟩ = some (.int .i64 x) ∧ w'.cell? ⟨w.heap.size, 1, none⟩ = some (.int .i64 y) ∧ w'.cell? ⟨w.heap.size, 2, none⟩ = some (.int .i64 z) ∧ w'.cell? ⟨w.heap.size + 1, 0, none⟩ = some (.int .i64 a) ∧ w'.cell? ⟨w.heap.size + 1, 1, none⟩ = some (.int .i64 b) ∧ w'.cell? ⟨w.heap.size + 1, 2, none⟩ = some (.int .i64 c)) (first | (go_keep; done) | ((try dsimp only); (repeat' apply And.intro) <;> first | (go_keep; done) | (simp (disch := omega) [cell_other, *]; done)))
    (first
      | (go_at_call_of 20 (Value.int IntKind.i64 x); refine (toFrac_any x y z _).mono ?_; rintro e w' ⟨rfl, hb⟩; obtain ⟨q00, q01, q02⟩ := keep3 hb (b := w.heap.size) (x := .int .i64 x) (y := .int .i64 y) (z := .int .i64 z) (by go_simp); have kb0 : w.heap.size < w'.heap.size := World.block_lt_of_cell? _ _ q00; obtain ⟨q10, q11, q12⟩ := keep3 hb (b := w.heap.size + 1) (x := .int .i64 a) (y := .int .i64 b) (z := .int .i64 c) (by go_simp); have kb1 : w.heap.size + 1 < w'.heap.size := World.block_lt_of_cell? _ _ q10; refine with_fact (A := Acc w w') ?_ ?_; (focus (refine Acc.call ?_ hb; (repeat' (first | assumption | exact Acc.refl _ | refine Acc.drew ?_ | refine Acc.alloc ?_ _ | refine Acc.setCell ?_ (by omega) _)))); intro ha; clear hb)
      | (go_at_call_of 20 (Value.int IntKind.i64 a); refine (toFrac_any a b c _).mono ?_; rintro e w' ⟨rfl, hb⟩; obtain ⟨q00, q01, q02⟩ := keep3 hb (b := w.heap.size) (x := .int .i64 x) (y := .int .i64 y) (z := .int .i64 z) (by go_simp); have kb0 : w.heap.size < w'.heap.size := World.block_lt_of_cell? _ _ q00; obtain ⟨q10, q11, q12⟩ := keep3 hb (b := w.heap.size + 1) (x := .int .i64 a) (y := .int .i64 b) (z := .int .i64 c) (by go_simp); have kb1 : w.heap.size + 1 < w'.heap.size := World.block_lt_of_cell? _ _ q10; refine with_fact (A := Acc w w') ?_ ?_; (focus (refine Acc.call ?_ hb; (repeat' (first | assumption | exact Acc.refl _ | refine Acc.drew ?_ | refine Acc.alloc ?_ _ | refine Acc.setCell ?_ (by omega) _)))); intro ha; clear hb)
      | (go_at_call 38; refine (HI.out _ (by repeat' (first | assumption | exact Acc.refl _ | refine Acc.drew ?_ | refine Acc.alloc ?_ _ | refine Acc.setCell ?_ (by omega) _))).mono ?_; rintro e w' ⟨rfl, hb⟩; obtain ⟨q00, q01, q02⟩ := keep3 hb (b := w.heap.size) (x := .int .i64 x) (y := .int .i64 y) (z := .int .i64 z) (by go_simp); have kb0 : w.heap.size < w'.heap.size := World.block_lt_of_cell? _ _ q00; obtain ⟨q10, q11, q12⟩ := keep3 hb (b := w.heap.size + 1) (x := .int .i64 a) (y := .int .i64 b) (z := .int .i64 c) (by go_simp); have kb1 : w.heap.size + 1 < w'.heap.size := World.block_lt_of_cell? _ _ q10; refine with_fact (A := Acc w w') ?_ ?_; (focus (refine Acc.call ?_ hb; (repeat' (first | assumption | exact Acc.refl _ | refine Acc.drew ?_ | refine Acc.alloc ?_ _ | refine Acc.setCell ?_ (by omega) _)))); intro ha; clear hb))
      all_goals
        go_wp2_with fail
        go_meet
        exact ⟨rfl, rfl, by assumption⟩
    case rest =>
      obtain ⟨rfl, rfl, ha'⟩ := hcut
      clear q0 q1 q2 q3 q4 q5 hz0 hz1 ha
      go_wp2_with fail
      go_ret
      exact ⟨rfl, ha'⟩
end Go.Proofs.YtmhoppjekiiheaaDoor
