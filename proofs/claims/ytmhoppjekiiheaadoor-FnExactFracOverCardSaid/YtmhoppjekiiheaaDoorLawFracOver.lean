/-
  The exact law of FracOver, out of both contracts.
-/
import Derived.Test.YtmhoppjekiiheaaDoorLawEq
import Derived.Test.YtmhoppjekiiheaaDoorSpecLow
namespace Go.Proofs.YtmhoppjekiiheaaDoor
open Go.ChangeShapes Go.WideShapes Go.ChangeAt Go.RowKit
set_option linter.unusedVariables false

set_option maxHeartbeats 3000000 in
theorem exactFracOver (o : Option (Int × Int × Int)) (x y z a b c : Int)
    (hs : ∀ w, Calls Tryd.prog 31 #[.agg #[.int .i64 x, .int .i64 y, .int .i64 z], .agg #[.int .i64 a, .int .i64 b, .int .i64 c]] w (Gave o w))
    (w : World) (hi : ∀ W, Acc w W → Calls Tryd.prog 32 #[.agg #[.int .i64 x, .int .i64 y, .int .i64 z], .agg #[.int .i64 a, .int .i64 b, .int .i64 c]] W (Gave o W)) :
    Calls Tryd.prog 9 #[.agg #[.int .i64 x, .int .i64 y, .int .i64 z], .agg #[.int .i64 a, .int .i64 b, .int .i64 c]] w (Fine w) := by
  obtain ⟨r, hr⟩ : ∃ r, (partsR o).1 = r := ⟨_, rfl⟩
  obtain ⟨i, hi'⟩ : ∃ i, (partsR o).2.1 = i := ⟨_, rfl⟩
  obtain ⟨d, hd⟩ : ∃ d, (partsR o).2.2 = d := ⟨_, rfl⟩
  obtain ⟨k, hk⟩ : ∃ k, okR o = k := ⟨_, rfl⟩
  have e := resV_eq o
  rw [hr, hi', hd, hk] at e
  have HS := Lib.hid hs
  have HI := Lib.hid hi
  unfold Gave at HS HI
  rw [e] at HS HI
  clear hr hi' hd hk e hs hi
  go_enter Tryd.func9, Tryd.ntmps9
  go_upto_region 1 with fail
  go_cut [5, 6] (fun s5 s6 wx => ∃ p : Nat, s5 = .pointer (some ⟨p, 0, none⟩) ∧ s6 = .bool k ∧ wx.cell? ⟨p, 0, none⟩ = some (.int .i64 r) ∧ wx.cell? ⟨p, 1, none⟩ = some (.int .i64 i) ∧ wx.cell? ⟨p, 2, none⟩ = some (.int .i64 d) ∧ p < wx.heap.size ∧
    (wx.cell? ⟨w.heap.size, 0, none⟩ = some (.int .i64 x) ∧ wx.cell? ⟨w.heap.size, 1, none⟩ = some (.int .i64 y) ∧ wx.cell? ⟨w.heap.size, 2, none⟩ = some (.int .i64 z)) ∧
    (wx.cell? ⟨w.heap.size + 1, 0, none⟩ = some (.int .i64 a) ∧ wx.cell? ⟨w.heap.size + 1, 1, none⟩ = some (.int .i64 b) ∧ wx.cell? ⟨w.heap.size + 1, 2, none⟩ = some (.int .i64 c)) ∧
    w.heap.size + 1 < wx.heap.size ∧ Acc w wx)
  case first =>
    go_region_held3 (fun w' => w'.cell? ⟨w.heap.size, 0, none⟩ = some (.int .i64 x) ∧ w'.cell? ⟨w.heap.size, 1, none⟩ = some (.int .i64 y) ∧ w'.cell? ⟨w.heap.size, 2, none⟩ = some (.int .i64 z) ∧
        w'.cell? ⟨w.heap.size + 1, 0, none⟩ = some (.int .i64 a) ∧ w'.cell? ⟨w.heap.size + 1, 1, none⟩ = some (.int .i64 b) ∧ w'.cell? ⟨w.heap.size + 1, 2, none⟩ = some (.int .i64 c)) (first | (go_keep; done) | ((try dsimp only); (repeat' apply And.intro) <;> first | (go_keep; done) | (simp (disch := omega) [cell_other, *]; done)))
      (first
        | (go_at_call_of 20 (Value.int IntKind.i64 x); refine (toFrac_any x y z _).mono ?_; rintro e w' ⟨rfl, hb⟩; obtain ⟨q0, q1, q2⟩ := keep3 hb (b := w.heap.size) (x := .int .i64 x) (y := .int .i64 y) (z := .int .i64 z) (by go_simp); obtain ⟨q3, q4, q5⟩ := keep3 hb (b := w.heap.size + 1) (x := .int .i64 a) (y := .int .i64 b) (z := .int .i64 c) (by go_simp); have hz : w.heap.size + 1 < w'.heap.size := World.block_lt_of_cell? _ _ q3; have hz0 : w.heap.size < w'.heap.size := World.block_lt_of_cell? _ _ q0; obtain ⟨hc, hf⟩ := bcell hb; have hn := bsize hb; (try (refine with_fact (A := w.heap.size + 1 + 1 < w'.heap.size) ?_ ?_; (focus (first | (apply hn; assumption) | (apply hn; simp; done))); intro hP)); refine with_fact (A := Acc w w') ?_ ?_; (focus (refine Acc.call ?_ hb; (repeat' (first | assumption | exact Acc.refl _ | refine Acc.drew ?_ | refine Acc.alloc ?_ _ | refine Acc.setCell ?_ (by omega) _)))); intro ha; clear hb)
        | (go_at_call_of 20 (Value.int IntKind.i64 a); refine (toFrac_any a b c _).mono ?_; rintro e w' ⟨rfl, hb⟩; obtain ⟨q0, q1, q2⟩ := keep3 hb (b := w.heap.size) (x := .int .i64 x) (y := .int .i64 y) (z := .int .i64 z) (by go_simp); obtain ⟨q3, q4, q5⟩ := keep3 hb (b := w.heap.size + 1) (x := .int .i64 a) (y := .int .i64 b) (z := .int .i64 c) (by go_simp); have hz : w.heap.size + 1 < w'.heap.size := World.block_lt_of_cell? _ _ q3; have hz0 : w.heap.size < w'.heap.size := World.block_lt_of_cell? _ _ q0; obtain ⟨hc, hf⟩ := bcell hb; have hn := bsize hb; (try (refine with_fact (A := w.heap.size + 1 + 1 < w'.heap.size) ?_ ?_; (focus (first | (apply hn; assumption) | (apply hn; simp; done))); intro hP)); refine with_fact (A := Acc w w') ?_ ?_; (focus (refine Acc.call ?_ hb; (repeat' (first | assumption | exact Acc.refl _ | refine Acc.drew ?_ | refine Acc.alloc ?_ _ | refine Acc.setCell ?_ (by omega) _)))); intro ha; clear hb)
        | (go_at_call 31; refine (HS.out _).mono ?_; rintro e w' ⟨rfl, hb⟩; obtain ⟨q0, q1, q2⟩ := keep3 hb (b := w.heap.size) (x := .int .i64 x) (y := .int .i64 y) (z := .int .i64 z) (by go_simp); obtain ⟨q3, q4, q5⟩ := keep3 hb (b := w.heap.size + 1) (x := .int .i64 a) (y := .int .i64 b) (z := .int .i64 c) (by go_simp); have hz : w.heap.size + 1 < w'.heap.size := World.block_lt_of_cell? _ _ q3; have hz0 : w.heap.size < w'.heap.size := World.block_lt_of_cell? _ _ q0; obtain ⟨hc, hf⟩ := bcell hb; have hn := bsize hb; (try (refine with_fact (A := w.heap.size + 1 + 1 < w'.heap.size) ?_ ?_; (focus (first | (apply hn; assumption) | (apply hn; simp; done))); intro hP)); refine with_fact (A := Acc w w') ?_ ?_; (focus (refine Acc.call ?_ hb; (repeat' (first | assumption | exact Acc.refl _ | refine Acc.drew ?_ | refine Acc.alloc ?_ _ | refine Acc.setCell ?_ (by omega) _)))); intro ha; clear hb))
    all_goals
      go_wp2_with fail
      go_meet
      refine ⟨_, rfl, rfl, ?_⟩
      and_intros
      all_goals
        first
          | (go_simp; done)
          | (simp (disch := omega) [cell_other, *]; done)
          | (simp [World.setCell]; omega)
          | (simp (maxDischargeDepth := 10) [go_sem, *]; done)
          | ((repeat' (first | assumption | exact Acc.refl _ | refine Acc.drew ?_ | refine Acc.alloc ?_ _ | refine Acc.setCell ?_ (by omega) _)); done)
  case rest =>
    obtain ⟨p, rfl, rfl, p0, p1, p2, hp, ⟨q0, q1, q2⟩, ⟨q3, q4, q5⟩, hz, ha⟩ := hcut
    have hz0 : w.heap.size < wc.heap.size := by omega
    go_upto_region 2 with fail
    go_cut [7, 8] (fun s7 s8 wx => ∃ p' : Nat, s7 = .pointer (some ⟨p', 0, none⟩) ∧ s8 = .bool k ∧ (wx.cell? ⟨p', 0, none⟩ = some (.int .i64 r) ∧ wx.cell? ⟨p', 1, none⟩ = some (.int .i64 i) ∧ wx.cell? ⟨p', 2, none⟩ = some (.int .i64 d)) ∧
      (wx.cell? ⟨p, 0, none⟩ = some (.int .i64 r) ∧ wx.cell? ⟨p, 1, none⟩ = some (.int .i64 i) ∧ wx.cell? ⟨p, 2, none⟩ = some (.int .i64 d)) ∧ Acc w wx)
    case first =>
      go_region_held3 (fun w' => w'.cell? ⟨w.heap.size, 0, none⟩ = some (.int .i64 x) ∧ w'.cell? ⟨w.heap.size, 1, none⟩ = some (.int .i64 y) ∧ w'.cell? ⟨w.heap.size, 2, none⟩ = some (.int .i64 z) ∧ w'.cell? ⟨w.heap.size + 1, 0, none⟩ = some (.int .i64 a) ∧ w'.cell? ⟨w.heap.size + 1, 1, none⟩ = some (.int .i64 b) ∧ w'.cell? ⟨w.heap.size + 1, 2, none⟩ = some (.int .i64 c) ∧ w'.cell? ⟨p, 0, none⟩ = some (.int .i64 r) ∧ w'.cell? ⟨p, 1, none⟩ = some (.int .i64 i) ∧ w'.cell? ⟨p, 2, none⟩ = some (.int .i64 d))
        (first | (go_keep; done) | ((try dsimp only); (repeat' apply And.intro) <;> first | (go_keep; done) | (simp (disch := omega) [cell_other, *]; done)))
        (first
          | (go_at_call_of 20 (Value.int IntKind.i64 x); refine (toFrac_any x y z _).mono ?_; rintro e w' ⟨rfl, hb⟩; obtain ⟨q0, q1, q2⟩ := keep3 hb (b := w.heap.size) (x := .int .i64 x) (y := .int .i64 y) (z := .int .i64 z) (by go_simp); obtain ⟨q3, q4, q5⟩ := keep3 hb (b := w.heap.size + 1) (x := .int .i64 a) (y := .int .i64 b) (z := .int .i64 c) (by go_simp); obtain ⟨p0, p1, p2⟩ := keep3 hb (b := p) (x := .int .i64 r) (y := .int .i64 i) (z := .int .i64 d) (by go_simp); have hz : w.heap.size + 1 < w'.heap.size := World.block_lt_of_cell? _ _ q3; have hz0 : w.heap.size < w'.heap.size := World.block_lt_of_cell? _ _ q0; have hp : p < w'.heap.size := World.block_lt_of_cell? _ _ p0; obtain ⟨hc, hf⟩ := bcell hb; have hn := bsize hb; (try (refine with_fact (A := wc.heap.size < w'.heap.size) ?_ ?_; (focus (first | (apply hn; assumption) | (apply hn; simp; done))); intro hP)); refine with_fact (A := Acc w w') ?_ ?_; (focus (refine Acc.call ?_ hb; (repeat' (first | assumption | exact Acc.refl _ | refine Acc.drew ?_ | refine Acc.alloc ?_ _ | refine Acc.setCell ?_ (by omega) _)))); intro ha; clear hb)
          | (go_at_call_of 20 (Value.int IntKind.i64 a); refine (toFrac_any a b c _).mono ?_; rintro e w' ⟨rfl, hb⟩; obtain ⟨q0, q1, q2⟩ := keep3 hb (b := w.heap.size) (x := .int .i64 x) (y := .int .i64 y) (z := .int .i64 z) (by go_simp); obtain ⟨q3, q4, q5⟩ := keep3 hb (b := w.heap.size + 1) (x := .int .i64 a) (y := .int .i64 b) (z := .int .i64 c) (by go_simp); obtain ⟨p0, p1, p2⟩ := keep3 hb (b := p) (x := .int .i64 r) (y := .int .i64 i) (z := .int .i64 d) (by go_simp); have hz : w.heap.size + 1 < w'.heap.size := World.block_lt_of_cell? _ _ q3; have hz0 : w.heap.size < w'.heap.size := World.block_lt_of_cell? _ _ q0; have hp : p < w'.heap.size := World.block_lt_of_cell? _ _ p0; obtain ⟨hc, hf⟩ := bcell hb; have hn := bsize hb; (try (refine with_fact (A := wc.heap.size < w'.heap.size) ?_ ?_; (focus (first | (apply hn; assumption) | (apply hn; simp; done))); intro hP)); refine with_fact (A := Acc w w') ?_ ?_; (focus (refine Acc.call ?_ hb; (repeat' (first | assumption | exact Acc.refl _ | refine Acc.drew ?_ | refine Acc.alloc ?_ _ | refine Acc.setCell ?_ (by omega) _)))); intro ha; clear hb)
          | (go_at_call 32; refine (HI.out _ (by repeat' (first | assumption | exact Acc.refl _ | refine Acc.drew ?_ | refine Acc.alloc ?_ _ | refine Acc.setCell ?_ (by omega) _))).mono ?_; rintro e w' ⟨rfl, hb⟩; obtain ⟨q0, q1, q2⟩ := keep3 hb (b := w.heap.size) (x := .int .i64 x) (y := .int .i64 y) (z := .int .i64 z) (by go_simp); obtain ⟨q3, q4, q5⟩ := keep3 hb (b := w.heap.size + 1) (x := .int .i64 a) (y := .int .i64 b) (z := .int .i64 c) (by go_simp); obtain ⟨p0, p1, p2⟩ := keep3 hb (b := p) (x := .int .i64 r) (y := .int .i64 i) (z := .int .i64 d) (by go_simp); have hz : w.heap.size + 1 < w'.heap.size := World.block_lt_of_cell? _ _ q3; have hz0 : w.heap.size < w'.heap.size := World.block_lt_of_cell? _ _ q0; have hp : p < w'.heap.size := World.block_lt_of_cell? _ _ p0; obtain ⟨hc, hf⟩ := bcell hb; have hn := bsize hb; (try (refine with_fact (A := wc.heap.size < w'.heap.size) ?_ ?_; (focus (first | (apply hn; assumption) | (apply hn; simp; done))); intro hP)); refine with_fact (A := Acc w w') ?_ ?_; (focus (refine Acc.call ?_ hb; (repeat' (first | assumption | exact Acc.refl _ | refine Acc.drew ?_ | refine Acc.alloc ?_ _ | refine Acc.setCell ?_ (by omega) _)))); intro ha; clear hb))
      all_goals
        go_wp2_with fail
        go_meet
        refine ⟨_, rfl, rfl, ?_⟩
        and_intros
        all_goals
          first
            | (go_simp; done)
            | (simp (disch := omega) [cell_other, *]; done)
            | (simp (maxDischargeDepth := 10) [go_sem, *]; done)
            | ((repeat' (first | assumption | exact Acc.refl _ | refine Acc.drew ?_ | refine Acc.alloc ?_ _ | refine Acc.setCell ?_ (by omega) _)); done)
    case rest =>
      obtain ⟨p', rfl, rfl, ⟨r0, r1, r2⟩, ⟨u0, u1, u2⟩, ha'⟩ := hcut
      clear p0 p1 p2 q0 q1 q2 q3 q4 q5 ha hz hz0 hp
      go_wp2_with fail
      refine (eqFrac_any r i d _).mono ?_
      rintro e w' ⟨rfl, hb⟩
      go_wp2_with fail
      go_ret
      exact ⟨rfl, Acc.call ha' hb⟩
end Go.Proofs.YtmhoppjekiiheaaDoor
