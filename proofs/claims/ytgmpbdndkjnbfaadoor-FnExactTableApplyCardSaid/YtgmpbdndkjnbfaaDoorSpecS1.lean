/-
  The model: four numbers: valid, squares, light, pure light.
-/
import Derived.Test.YtgmpbdndkjnbfaaDoorBMathA
import Derived.Test.YtgmpbdndkjnbfaaDoorBMem
import Derived.Test.YtgmpbdndkjnbfaaDoorBSpecV
namespace Go.Proofs.YtgmpbdndkjnbfaaDoor
open Go.ChangeShapes Go.WideShapes Go.ChangeAt Go.RowKit
set_option linter.unusedVariables false

theorem some_of {o : Option (Int × Int × Int)} {p q r : Int} (hp : partsR o = (p, q, r)) (hk : okR o = true) : o = some (p, q, r) := by
  cases o with
  | none => cases hk
  | some v => rw [← hp]; rfl
theorem none_of {o : Option (Int × Int × Int)} (hk : okR o = false) : o = none := by
  cases o with
  | none => rfl
  | some v => cases hk
set_option maxHeartbeats 8000000 in
theorem specSValid_any (a1 a2 a3 b1 b2 b3 c1 c2 c3 d1 d2 d3 : Int) (w : World) :
    Calls Tryd.prog 17 #[.agg #[.int .i64 a1, .int .i64 a2, .int .i64 a3, .int .i64 b1, .int .i64 b2, .int .i64 b3, .int .i64 c1, .int .i64 c2, .int .i64 c3, .int .i64 d1, .int .i64 d2, .int .i64 d3]] w fun e w' => e = .returned (.bool (sValid a1 a2 a3 b1 b2 b3 c1 c2 c3 d1 d2 d3)) ∧ Below w.heap.size w w' := by
  obtain ⟨k0, hk0⟩ : ∃ k, okF a1 a2 a3 = k := ⟨_, rfl⟩
  have K0 := Lib.hid hk0
  clear hk0
  obtain ⟨k1, hk1⟩ : ∃ k, okF b1 b2 b3 = k := ⟨_, rfl⟩
  have K1 := Lib.hid hk1
  clear hk1
  obtain ⟨k2, hk2⟩ : ∃ k, okF c1 c2 c3 = k := ⟨_, rfl⟩
  have K2 := Lib.hid hk2
  clear hk2
  obtain ⟨k3, hk3⟩ : ∃ k, okF d1 d2 d3 = k := ⟨_, rfl⟩
  have K3 := Lib.hid hk3
  clear hk3
  obtain ⟨o, E⟩ : ∃ o, sValid a1 a2 a3 b1 b2 b3 c1 c2 c3 d1 d2 d3 = o := ⟨_, rfl⟩
  rw [E]
  have HE := Lib.hid E
  clear E
  go_enter Tryd.func17, Tryd.ntmps17
  go_wp2_with fail
  refine wp_loop_rounds 5 ?_
  rw [rounds_succ]
  go_wp2_with fail
  refine (valid_at K0.out (specValid_any a1 a2 a3 _)).mono ?_
  rintro e W1 ⟨rfl, hb⟩
  have Ba : Blk W1 (w.heap.size) [.int .i64 a1, .int .i64 a2, .int .i64 a3, .int .i64 b1, .int .i64 b2, .int .i64 b3, .int .i64 c1, .int .i64 c2, .int .i64 c3, .int .i64 d1, .int .i64 d2, .int .i64 d3] := Blk.keep hb (by repeat' (first | (with_reducible first | assumption | refine Blk.drew ?_ | refine Blk.drewN ?_ _ | apply Blk.set | (refine Blk.new ?_; focus (first | rfl | (simp; done))) | refine Blk.alloc ?_ _ | refine Blk.other ?_ ?_ _) | exact eqL rfl | (refine neB ?_; omega)))
  have ca := Ba.cell
  have fa := Ba.free
  have la_W1 := Ba.lt
  have kaW1 : Acc w W1 := by
    refine Acc.call ?_ hb
    (repeat' (first | (with_reducible first | assumption | exact Acc.refl _ | refine Acc.drew ?_ | refine Acc.drewN ?_ _ | refine Acc.alloc ?_ _ | refine Acc.setCell ?_ ?_ _) | (refine leB ?_; omega)))
  clear hb
  cases k0 with
  | false =>
    obtain rfl : o = false := HE.out.symm.trans (by unfold sValid realB; simp [K0.out])
    go_wp2_with fail
    go_ret
    refine ⟨rfl, ?_⟩
    show Acc w _
    (repeat' (first | (with_reducible first | assumption | exact Acc.refl _ | refine Acc.drew ?_ | refine Acc.drewN ?_ _ | refine Acc.alloc ?_ _ | refine Acc.setCell ?_ ?_ _) | (refine leB ?_; omega)))
  | true =>
    by_cases hz : a2 = 0
    · subst hz
      go_wp2_with fail
      rw [rounds_succ]
      go_wp2_with fail
      refine (valid_at K1.out (specValid_any b1 b2 b3 _)).mono ?_
      rintro e W2 ⟨rfl, hb⟩
      have Ba : Blk W2 (w.heap.size) [.int .i64 a1, .int .i64 0, .int .i64 a3, .int .i64 b1, .int .i64 b2, .int .i64 b3, .int .i64 c1, .int .i64 c2, .int .i64 c3, .int .i64 d1, .int .i64 d2, .int .i64 d3] := Blk.keep hb (by repeat' (first | (with_reducible first | assumption | refine Blk.drew ?_ | refine Blk.drewN ?_ _ | apply Blk.set | (refine Blk.new ?_; focus (first | rfl | (simp; done))) | refine Blk.alloc ?_ _ | refine Blk.other ?_ ?_ _) | exact eqL rfl | (refine neB ?_; omega)))
      have ca := Ba.cell
      have fa := Ba.free
      have la_W2 := Ba.lt
      have kaW2 : Acc w W2 := by
        refine Acc.call ?_ hb
        (repeat' (first | (with_reducible first | assumption | exact Acc.refl _ | refine Acc.drew ?_ | refine Acc.drewN ?_ _ | refine Acc.alloc ?_ _ | refine Acc.setCell ?_ ?_ _) | (refine leB ?_; omega)))
      clear hb
      cases k1 with
      | false =>
        obtain rfl : o = false := HE.out.symm.trans (by unfold sValid realB; simp [K1.out])
        go_wp2_with fail
        go_ret
        refine ⟨rfl, ?_⟩
        show Acc w _
        (repeat' (first | (with_reducible first | assumption | exact Acc.refl _ | refine Acc.drew ?_ | refine Acc.drewN ?_ _ | refine Acc.alloc ?_ _ | refine Acc.setCell ?_ ?_ _) | (refine leB ?_; omega)))
      | true =>
        by_cases hz : b2 = 0
        · subst hz
          go_wp2_with fail
          rw [rounds_succ]
          go_wp2_with fail
          refine (valid_at K2.out (specValid_any c1 c2 c3 _)).mono ?_
          rintro e W3 ⟨rfl, hb⟩
          have Ba : Blk W3 (w.heap.size) [.int .i64 a1, .int .i64 0, .int .i64 a3, .int .i64 b1, .int .i64 0, .int .i64 b3, .int .i64 c1, .int .i64 c2, .int .i64 c3, .int .i64 d1, .int .i64 d2, .int .i64 d3] := Blk.keep hb (by repeat' (first | (with_reducible first | assumption | refine Blk.drew ?_ | refine Blk.drewN ?_ _ | apply Blk.set | (refine Blk.new ?_; focus (first | rfl | (simp; done))) | refine Blk.alloc ?_ _ | refine Blk.other ?_ ?_ _) | exact eqL rfl | (refine neB ?_; omega)))
          have ca := Ba.cell
          have fa := Ba.free
          have la_W3 := Ba.lt
          have kaW3 : Acc w W3 := by
            refine Acc.call ?_ hb
            (repeat' (first | (with_reducible first | assumption | exact Acc.refl _ | refine Acc.drew ?_ | refine Acc.drewN ?_ _ | refine Acc.alloc ?_ _ | refine Acc.setCell ?_ ?_ _) | (refine leB ?_; omega)))
          clear hb
          cases k2 with
          | false =>
            obtain rfl : o = false := HE.out.symm.trans (by unfold sValid realB; simp [K2.out])
            go_wp2_with fail
            go_ret
            refine ⟨rfl, ?_⟩
            show Acc w _
            (repeat' (first | (with_reducible first | assumption | exact Acc.refl _ | refine Acc.drew ?_ | refine Acc.drewN ?_ _ | refine Acc.alloc ?_ _ | refine Acc.setCell ?_ ?_ _) | (refine leB ?_; omega)))
          | true =>
            by_cases hz : c2 = 0
            · subst hz
              go_wp2_with fail
              rw [rounds_succ]
              go_wp2_with fail
              refine (valid_at K3.out (specValid_any d1 d2 d3 _)).mono ?_
              rintro e W4 ⟨rfl, hb⟩
              have Ba : Blk W4 (w.heap.size) [.int .i64 a1, .int .i64 0, .int .i64 a3, .int .i64 b1, .int .i64 0, .int .i64 b3, .int .i64 c1, .int .i64 0, .int .i64 c3, .int .i64 d1, .int .i64 d2, .int .i64 d3] := Blk.keep hb (by repeat' (first | (with_reducible first | assumption | refine Blk.drew ?_ | refine Blk.drewN ?_ _ | apply Blk.set | (refine Blk.new ?_; focus (first | rfl | (simp; done))) | refine Blk.alloc ?_ _ | refine Blk.other ?_ ?_ _) | exact eqL rfl | (refine neB ?_; omega)))
              have ca := Ba.cell
              have fa := Ba.free
              have la_W4 := Ba.lt
              have kaW4 : Acc w W4 := by
                refine Acc.call ?_ hb
                (repeat' (first | (with_reducible first | assumption | exact Acc.refl _ | refine Acc.drew ?_ | refine Acc.drewN ?_ _ | refine Acc.alloc ?_ _ | refine Acc.setCell ?_ ?_ _) | (refine leB ?_; omega)))
              clear hb
              cases k3 with
              | false =>
                obtain rfl : o = false := HE.out.symm.trans (by unfold sValid realB; simp [K3.out])
                go_wp2_with fail
                go_ret
                refine ⟨rfl, ?_⟩
                show Acc w _
                (repeat' (first | (with_reducible first | assumption | exact Acc.refl _ | refine Acc.drew ?_ | refine Acc.drewN ?_ _ | refine Acc.alloc ?_ _ | refine Acc.setCell ?_ ?_ _) | (refine leB ?_; omega)))
              | true =>
                by_cases hz : d2 = 0
                · subst hz
                  go_wp2_with fail
                  rw [rounds_succ]
                  go_wp2_with fail
                  obtain rfl : o = true := HE.out.symm.trans (by unfold sValid realB; simp [K0.out, K1.out, K2.out, K3.out])
                  go_ret
                  refine ⟨rfl, ?_⟩
                  show Acc w _
                  (repeat' (first | (with_reducible first | assumption | exact Acc.refl _ | refine Acc.drew ?_ | refine Acc.drewN ?_ _ | refine Acc.alloc ?_ _ | refine Acc.setCell ?_ ?_ _) | (refine leB ?_; omega)))
                · skip
                  obtain rfl : o = false := HE.out.symm.trans (by unfold sValid realB; simp [hz])
                  go_wp2_with fail
                  go_ret
                  refine ⟨rfl, ?_⟩
                  show Acc w _
                  (repeat' (first | (with_reducible first | assumption | exact Acc.refl _ | refine Acc.drew ?_ | refine Acc.drewN ?_ _ | refine Acc.alloc ?_ _ | refine Acc.setCell ?_ ?_ _) | (refine leB ?_; omega)))
            · skip
              obtain rfl : o = false := HE.out.symm.trans (by unfold sValid realB; simp [hz])
              go_wp2_with fail
              go_ret
              refine ⟨rfl, ?_⟩
              show Acc w _
              (repeat' (first | (with_reducible first | assumption | exact Acc.refl _ | refine Acc.drew ?_ | refine Acc.drewN ?_ _ | refine Acc.alloc ?_ _ | refine Acc.setCell ?_ ?_ _) | (refine leB ?_; omega)))
        · skip
          obtain rfl : o = false := HE.out.symm.trans (by unfold sValid realB; simp [hz])
          go_wp2_with fail
          go_ret
          refine ⟨rfl, ?_⟩
          show Acc w _
          (repeat' (first | (with_reducible first | assumption | exact Acc.refl _ | refine Acc.drew ?_ | refine Acc.drewN ?_ _ | refine Acc.alloc ?_ _ | refine Acc.setCell ?_ ?_ _) | (refine leB ?_; omega)))
    · skip
      obtain rfl : o = false := HE.out.symm.trans (by unfold sValid realB; simp [hz])
      go_wp2_with fail
      go_ret
      refine ⟨rfl, ?_⟩
      show Acc w _
      (repeat' (first | (with_reducible first | assumption | exact Acc.refl _ | refine Acc.drew ?_ | refine Acc.drewN ?_ _ | refine Acc.alloc ?_ _ | refine Acc.setCell ?_ ?_ _) | (refine leB ?_; omega)))
end Go.Proofs.YtgmpbdndkjnbfaaDoor
