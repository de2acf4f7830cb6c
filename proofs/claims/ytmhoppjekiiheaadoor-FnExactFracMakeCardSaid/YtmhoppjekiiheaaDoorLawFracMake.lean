/-
  The exact law of FracMake, out of both contracts.
-/
import Derived.Test.YtmhoppjekiiheaaDoorLawEq
import Derived.Test.YtmhoppjekiiheaaDoorSpecLow
namespace Go.Proofs.YtmhoppjekiiheaaDoor
open Go.ChangeShapes Go.WideShapes Go.ChangeAt Go.RowKit
set_option linter.unusedVariables false

set_option maxHeartbeats 2000000 in
theorem exactFracMake (o : Option (Int × Int × Int)) (x y z : Int)
    (hs : ∀ w, Calls Tryd.prog 22 #[.int .i64 x, .int .i64 y, .int .i64 z] w (Gave o w))
    (w : World) (hi : ∀ W, Acc w W → Calls Tryd.prog 23 #[.int .i64 x, .int .i64 y, .int .i64 z] W (Gave o W)) :
    Calls Tryd.prog 5 #[.int .i64 x, .int .i64 y, .int .i64 z] w (Fine w) := by
  obtain ⟨r, hr⟩ : ∃ r, (partsR o).1 = r := ⟨_, rfl⟩
  obtain ⟨i, hi'⟩ : ∃ i, (partsR o).2.1 = i := ⟨_, rfl⟩
  obtain ⟨d, hd⟩ : ∃ d, (partsR o).2.2 = d := ⟨_, rfl⟩
  obtain ⟨k, hk⟩ : ∃ k, okR o = k := ⟨_, rfl⟩
  have e := resV_eq o
  rw [hr, hi', hd, hk] at e
  have HS := Lib.hid hs
  have HI := Lib.hid hi
  unfold Gave at HS HI
  rw [e] at HS HI
  clear hr hi' hd hk e hs hi
  go_enter Tryd.func5, Tryd.ntmps5
  go_wp2_with fail
  refine (HS.out _).mono ?_
  rintro e w1 ⟨rfl, hb⟩
  have ha1 : Acc w w1 := hb
  clear hb
  go_wp2_with fail
  refine (HI.out _ (by repeat' (first | assumption | exact Acc.refl _ | refine Acc.drew ?_ | refine Acc.alloc ?_ _ | refine Acc.setCell ?_ (by omega) _))).mono ?_
  rintro e w3 ⟨rfl, hb⟩
  obtain ⟨t0, t1, t2⟩ := keep3 hb (b := w1.heap.size) (x := .int .i64 r) (y := .int .i64 i) (z := .int .i64 d) (by go_simp)
  have tb : w1.heap.size < w3.heap.size := World.block_lt_of_cell? _ _ t0
  have ha3 : Acc w w3 := by
    refine Acc.call ?_ hb
    (repeat' (first | assumption | exact Acc.refl _ | refine Acc.drew ?_ | refine Acc.alloc ?_ _ | refine Acc.setCell ?_ (by omega) _))
  clear hb
  go_wp2_with fail
  refine (eqFrac_any r i d _).mono ?_
  rintro e w4 ⟨rfl, hb⟩
  have ha4 : Acc w w4 := by
    refine Acc.call ?_ hb
    (repeat' (first | assumption | exact Acc.refl _ | refine Acc.drew ?_ | refine Acc.alloc ?_ _ | refine Acc.setCell ?_ (by omega) _))
  go_wp2_with fail
  go_ret
  exact ⟨rfl, ha4⟩
end Go.Proofs.YtmhoppjekiiheaaDoor
