/-
  The model: matrices: valid, products, adjoints, multiples.
-/
import Derived.Test.YtkdkeacfifjjoabGreatDoorBMathA
import Derived.Test.YtkdkeacfifjjoabGreatDoorBSpecV
import Derived.Test.YtkdkeacfifjjoabGreatDoorSpecS1
namespace Go.Proofs.YtkdkeacfifjjoabGreatDoor
open Go.ChangeShapes Go.WideShapes Go.ChangeAt Go.RowKit
set_option linter.unusedVariables false

set_option maxHeartbeats 8000000 in
theorem specMValid_any (a1 a2 a3 b1 b2 b3 c1 c2 c3 d1 d2 d3 : Int) (w : World) :
    Calls Tryz.prog 67 #[.agg #[.int .i64 a1, .int .i64 a2, .int .i64 a3, .int .i64 b1, .int .i64 b2, .int .i64 b3, .int .i64 c1, .int .i64 c2, .int .i64 c3, .int .i64 d1, .int .i64 d2, .int .i64 d3]] w fun e w' => e = .returned (.bool (okM ((a1, a2, a3), (b1, b2, b3), (c1, c2, c3), (d1, d2, d3)))) ∧ Below w.heap.size w w' := by
  obtain ⟨k0, hv⟩ : ∃ k, okF a1 a2 a3 = k := ⟨_, rfl⟩
  have K0 := Lib.hid hv
  clear hv
  obtain ⟨k1, hv⟩ : ∃ k, okF b1 b2 b3 = k := ⟨_, rfl⟩
  have K1 := Lib.hid hv
  clear hv
  obtain ⟨k2, hv⟩ : ∃ k, okF c1 c2 c3 = k := ⟨_, rfl⟩
  have K2 := Lib.hid hv
  clear hv
  obtain ⟨k3, hv⟩ : ∃ k, okF d1 d2 d3 = k := ⟨_, rfl⟩
  have K3 := Lib.hid hv
  clear hv
  obtain ⟨o, E⟩ : ∃ o, okM ((a1, a2, a3), (b1, b2, b3), (c1, c2, c3), (d1, d2, d3)) = o := ⟨_, rfl⟩
  rw [E]
  have HE := Lib.hid E
  clear E
  go_enter Tryz.func67, Tryz.ntmps67
  go_wp2_with fail
  refine wp_loop_rounds 5 ?_
  rw [rounds_succ]
  go_wp2_with fail
  refine (valid_at K0.out (specValid_any a1 a2 a3 _)).mono ?_
  rintro e W1 ⟨rfl, hb⟩
  have Ba : Blk W1 (w.heap.size) [.int .i64 a1, .int .i64 a2, .int .i64 a3, .int .i64 b1, .int .i64 b2, .int .i64 b3, .int .i64 c1, .int .i64 c2, .int .i64 c3, .int .i64 d1, .int .i64 d2, .int .i64 d3] := Blk.keep hb (by repeat' (first | (with_reducible first | assumption | refine Blk.drew ?_ | refine Blk.drewN ?_ _ | apply Blk.set | (refine Blk.new ?_; focus (first | rfl | (simp; done))) | refine Blk.alloc ?_ _ | refine Blk.other ?_ ?_ _) | exact eqL rfl | (refine neB ?_; omega)))
  have ca := Ba.cell
  have fa := Ba.free
  have la_W1 := Ba.lt
  have kaW1 : Acc w W1 := by
    refine Acc.call ?_ hb
    (repeat' (first | (with_reducible first | assumption | exact Acc.refl _ | refine Acc.drew ?_ | refine Acc.drewN ?_ _ | refine Acc.alloc ?_ _ | refine Acc.setCell ?_ ?_ _) | (refine leB ?_; omega)))
  clear hb
  cases k0 with
  | false =>
    obtain rfl : o = false := HE.out.symm.trans (show (okF a1 a2 a3 && okF b1 b2 b3 && okF c1 c2 c3 && okF d1 d2 d3) = false by rw [K0.out]; simp)
    go_wp2_with fail
    go_ret
    refine ⟨rfl, ?_⟩
    show Acc w _
    (repeat' (first | (with_reducible first | assumption | exact Acc.refl _ | refine Acc.drew ?_ | refine Acc.drewN ?_ _ | refine Acc.alloc ?_ _ | refine Acc.setCell ?_ ?_ _) | (refine leB ?_; omega)))
  | true =>
    go_wp2_with fail
    rw [rounds_succ]
    go_wp2_with fail
    refine (valid_at K1.out (specValid_any b1 b2 b3 _)).mono ?_
    rintro e W2 ⟨rfl, hb⟩
    have Ba : Blk W2 (w.heap.size) [.int .i64 a1, .int .i64 a2, .int .i64 a3, .int .i64 b1, .int .i64 b2, .int .i64 b3, .int .i64 c1, .int .i64 c2, .int .i64 c3, .int .i64 d1, .int .i64 d2, .int .i64 d3] := Blk.keep hb (by repeat' (first | (with_reducible first | assumption | refine Blk.drew ?_ | refine Blk.drewN ?_ _ | apply Blk.set | (refine Blk.new ?_; focus (first | rfl | (simp; done))) | refine Blk.alloc ?_ _ | refine Blk.other ?_ ?_ _) | exact eqL rfl | (refine neB ?_; omega)))
    have ca := Ba.cell
    have fa := Ba.free
    have la_W2 := Ba.lt
    have kaW2 : Acc w W2 := by
      refine Acc.call ?_ hb
      (repeat' (first | (with_reducible first | assumption | exact Acc.refl _ | refine Acc.drew ?_ | refine Acc.drewN ?_ _ | refine Acc.alloc ?_ _ | refine Acc.setCell ?_ ?_ _) | (refine leB ?_; omega)))
    clear hb
    cases k1 with
    | false =>
      obtain rfl : o = false := HE.out.symm.trans (show (okF a1 a2 a3 && okF b1 b2 b3 && okF c1 c2 c3 && okF d1 d2 d3) = false by rw [K1.out]; simp)
      go_wp2_with fail
      go_ret
      refine ⟨rfl, ?_⟩
      show Acc w _
      (repeat' (first | (with_reducible first | assumption | exact Acc.refl _ | refine Acc.drew ?_ | refine Acc.drewN ?_ _ | refine Acc.alloc ?_ _ | refine Acc.setCell ?_ ?_ _) | (refine leB ?_; omega)))
    | true =>
      go_wp2_with fail
      rw [rounds_succ]
      go_wp2_with fail
      refine (valid_at K2.out (specValid_any c1 c2 c3 _)).mono ?_
      rintro e W3 ⟨rfl, hb⟩
      have Ba : Blk W3 (w.heap.size) [.int .i64 a1, .int .i64 a2, .int .i64 a3, .int .i64 b1, .int .i64 b2, .int .i64 b3, .int .i64 c1, .int .i64 c2, .int .i64 c3, .int .i64 d1, .int .i64 d2, .int .i64 d3] := Blk.keep hb (by repeat' (first | (with_reducible first | assumption | refine Blk.drew ?_ | refine Blk.drewN ?_ _ | apply Blk.set | (refine Blk.new ?_; focus (first | rfl | (simp; done))) | refine Blk.alloc ?_ _ | refine Blk.other ?_ ?_ _) | exact eqL rfl | (refine neB ?_; omega)))
      have ca := Ba.cell
      have fa := Ba.free
      have la_W3 := Ba.lt
      have kaW3 : Acc w W3 := by
        refine Acc.call ?_ hb
        (repeat' (first | (with_reducible first | assumption | exact Acc.refl _ | refine Acc.drew ?_ | refine Acc.drewN ?_ _ | refine Acc.alloc ?_ _ | refine Acc.setCell ?_ ?_ _) | (refine leB ?_; omega)))
      clear hb
      cases k2 with
      | false =>
        obtain rfl : o = false := HE.out.symm.trans (show (okF a1 a2 a3 && okF b1 b2 b3 && okF c1 c2 c3 && okF d1 d2 d3) = false by rw [K2.out]; simp)
        go_wp2_with fail
        go_ret
        refine ⟨rfl, ?_⟩
        show Acc w _
        (repeat' (first | (with_reducible first | assumption | exact Acc.refl _ | refine Acc.drew ?_ | refine Acc.drewN ?_ _ | refine Acc.alloc ?_ _ | refine Acc.setCell ?_ ?_ _) | (refine leB ?_; omega)))
      | true =>
        go_wp2_with fail
        rw [rounds_succ]
        go_wp2_with fail
        refine (valid_at K3.out (specValid_any d1 d2 d3 _)).mono ?_
        rintro e W4 ⟨rfl, hb⟩
        have Ba : Blk W4 (w.heap.size) [.int .i64 a1, .int .i64 a2, .int .i64 a3, .int .i64 b1, .int .i64 b2, .int .i64 b3, .int .i64 c1, .int .i64 c2, .int .i64 c3, .int .i64 d1, .int .i64 d2, .int .i64 d3] := Blk.keep hb (by repeat' (first | (with_reducible first | assumption | refine Blk.drew ?_ | refine Blk.drewN ?_ _ | apply Blk.set | (refine Blk.new ?_; focus (first | rfl | (simp; done))) | refine Blk.alloc ?_ _ | refine Blk.other ?_ ?_ _) | exact eqL rfl | (refine neB ?_; omega)))
        have ca := Ba.cell
        have fa := Ba.free
        have la_W4 := Ba.lt
        have kaW4 : Acc w W4 := by
          refine Acc.call ?_ hb
          (repeat' (first | (with_reducible first | assumption | exact Acc.refl _ | refine Acc.drew ?_ | refine Acc.drewN ?_ _ | refine Acc.alloc ?_ _ | refine Acc.setCell ?_ ?_ _) | (refine leB ?_; omega)))
        clear hb
        cases k3 with
        | false =>
          obtain rfl : o = false := HE.out.symm.trans (show (okF a1 a2 a3 && okF b1 b2 b3 && okF c1 c2 c3 && okF d1 d2 d3) = false by rw [K3.out]; simp)
          go_wp2_with fail
          go_ret
          refine ⟨rfl, ?_⟩
          show Acc w _
          (repeat' (first | (with_reducible first | assumption | exact Acc.refl _ | refine Acc.drew ?_ | refine Acc.drewN ?_ _ | refine Acc.alloc ?_ _ | refine Acc.setCell ?_ ?_ _) | (refine leB ?_; omega)))
        | true =>
          go_wp2_with fail
          rw [rounds_succ]
          go_wp2_with fail
          obtain rfl : o = true := HE.out.symm.trans (show (okF a1 a2 a3 && okF b1 b2 b3 && okF c1 c2 c3 && okF d1 d2 d3) = true by rw [K0.out, K1.out, K2.out, K3.out]; rfl)
          go_ret
          refine ⟨rfl, ?_⟩
          show Acc w _
          (repeat' (first | (with_reducible first | assumption | exact Acc.refl _ | refine Acc.drew ?_ | refine Acc.drewN ?_ _ | refine Acc.alloc ?_ _ | refine Acc.setCell ?_ ?_ _) | (refine leB ?_; omega)))
set_option maxHeartbeats 8000000 in
theorem specFour_true (a1 a2 a3 b1 b2 b3 c1 c2 c3 d1 d2 d3 : Int) (w : World) :
    Calls Tryz.prog 71 #[.agg #[.int .i64 a1, .int .i64 a2, .int .i64 a3], .agg #[.int .i64 b1, .int .i64 b2, .int .i64 b3], .agg #[.int .i64 c1, .int .i64 c2, .int .i64 c3], .agg #[.int .i64 d1, .int .i64 d2, .int .i64 d3], .bool true] w fun e w' => e = .returned (.tuple #[.agg #[.int .i64 a1, .int .i64 a2, .int .i64 a3, .int .i64 b1, .int .i64 b2, .int .i64 b3, .int .i64 c1, .int .i64 c2, .int .i64 c3, .int .i64 d1, .int .i64 d2, .int .i64 d3], .bool true]) ∧ Below w.heap.size w w' := by
  go_enter Tryz.func71, Tryz.ntmps71
  go_wp2_with fail
  refine bodyPost_ret (v := .tuple #[.agg #[.int .i64 a1, .int .i64 a2, .int .i64 a3, .int .i64 b1, .int .i64 b2, .int .i64 b3, .int .i64 c1, .int .i64 c2, .int .i64 c3, .int .i64 d1, .int .i64 d2, .int .i64 d3], .bool true]) (by simp [results, Tryz.results71, go_sem, *]) rfl ⟨rfl, ?_⟩
  show Acc w _
  (repeat' (first | (with_reducible first | assumption | exact Acc.refl _ | refine Acc.drew ?_ | refine Acc.drewN ?_ _ | refine Acc.alloc ?_ _ | refine Acc.setCell ?_ ?_ _) | (refine leB ?_; omega)))
set_option maxHeartbeats 8000000 in
theorem specFour_false (a1 a2 a3 b1 b2 b3 c1 c2 c3 d1 d2 d3 : Int) (w : World) :
    Calls Tryz.prog 71 #[.agg #[.int .i64 a1, .int .i64 a2, .int .i64 a3], .agg #[.int .i64 b1, .int .i64 b2, .int .i64 b3], .agg #[.int .i64 c1, .int .i64 c2, .int .i64 c3], .agg #[.int .i64 d1, .int .i64 d2, .int .i64 d3], .bool false] w fun e w' => e = .returned (.tuple #[.agg #[.int .i64 0, .int .i64 0, .int .i64 0, .int .i64 0, .int .i64 0, .int .i64 0, .int .i64 0, .int .i64 0, .int .i64 0, .int .i64 0, .int .i64 0, .int .i64 0], .bool false]) ∧ Below w.heap.size w w' := by
  go_enter Tryz.func71, Tryz.ntmps71
  go_wp2_with fail
  refine bodyPost_ret (v := .tuple #[.agg #[.int .i64 0, .int .i64 0, .int .i64 0, .int .i64 0, .int .i64 0, .int .i64 0, .int .i64 0, .int .i64 0, .int .i64 0, .int .i64 0, .int .i64 0, .int .i64 0], .bool false]) (by simp [results, Tryz.results71, go_sem, *]) rfl ⟨rfl, ?_⟩
  show Acc w _
  (repeat' (first | (with_reducible first | assumption | exact Acc.refl _ | refine Acc.drew ?_ | refine Acc.drewN ?_ _ | refine Acc.alloc ?_ _ | refine Acc.setCell ?_ ?_ _) | (refine leB ?_; omega)))
set_option maxHeartbeats 16000000 in
theorem specMTimes_any (a1 a2 a3 b1 b2 b3 c1 c2 c3 d1 d2 d3 i1 i2 i3 j1 j2 j3 k1 k2 k3 l1 l2 l3 : Int) (w : World) :
    Calls Tryz.prog 31 #[.agg #[.int .i64 a1, .int .i64 a2, .int .i64 a3, .int .i64 b1, .int .i64 b2, .int .i64 b3, .int .i64 c1, .int .i64 c2, .int .i64 c3, .int .i64 d1, .int .i64 d2, .int .i64 d3], .agg #[.int .i64 i1, .int .i64 i2, .int .i64 i3, .int .i64 j1, .int .i64 j2, .int .i64 j3, .int .i64 k1, .int .i64 k2, .int .i64 k3, .int .i64 l1, .int .i64 l2, .int .i64 l3]] w (Gave12 (mulM ((a1, a2, a3), (b1, b2, b3), (c1, c2, c3), (d1, d2, d3)) ((i1, i2, i3), (j1, j2, j3), (k1, k2, k3), (l1, l2, l3))) w) := by
  obtain ⟨v0, hv⟩ : ∃ k, okM ((a1, a2, a3), (b1, b2, b3), (c1, c2, c3), (d1, d2, d3)) = k := ⟨_, rfl⟩
  have V0 := Lib.hid hv
  clear hv
  obtain ⟨v1, hv⟩ : ∃ k, okM ((i1, i2, i3), (j1, j2, j3), (k1, k2, k3), (l1, l2, l3)) = k := ⟨_, rfl⟩
  have V1 := Lib.hid hv
  clear hv
  obtain ⟨⟨m1, m2, m3⟩, hv⟩ : ∃ o, partsR (innF a1 a2 a3 i1 i2 i3 b1 b2 b3 k1 k2 k3) = o := ⟨_, rfl⟩
  obtain ⟨km, hk⟩ : ∃ k, okR (innF a1 a2 a3 i1 i2 i3 b1 b2 b3 k1 k2 k3) = k := ⟨_, rfl⟩
  have Cm := Lib.hid hv
  have Dm := Lib.hid hk
  clear hv hk
  obtain ⟨⟨n1, n2, n3⟩, hv⟩ : ∃ o, partsR (innF a1 a2 a3 j1 j2 j3 b1 b2 b3 l1 l2 l3) = o := ⟨_, rfl⟩
  obtain ⟨kn, hk⟩ : ∃ k, okR (innF a1 a2 a3 j1 j2 j3 b1 b2 b3 l1 l2 l3) = k := ⟨_, rfl⟩
  have Cn := Lib.hid hv
  have Dn := Lib.hid hk
  clear hv hk
  obtain ⟨⟨p1, p2, p3⟩, hv⟩ : ∃ o, partsR (innF c1 c2 c3 i1 i2 i3 d1 d2 d3 k1 k2 k3) = o := ⟨_, rfl⟩
  obtain ⟨kp, hk⟩ : ∃ k, okR (innF c1 c2 c3 i1 i2 i3 d1 d2 d3 k1 k2 k3) = k := ⟨_, rfl⟩
  have Cp := Lib.hid hv
  have Dp := Lib.hid hk
  clear hv hk
  obtain ⟨⟨x1, x2, x3⟩, hv⟩ : ∃ o, partsR (innF c1 c2 c3 j1 j2 j3 d1 d2 d3 l1 l2 l3) = o := ⟨_, rfl⟩
  obtain ⟨kx, hk⟩ : ∃ k, okR (innF c1 c2 c3 j1 j2 j3 d1 d2 d3 l1 l2 l3) = k := ⟨_, rfl⟩
  have Cx := Lib.hid hv
  have Dx := Lib.hid hk
  clear hv hk
  obtain ⟨o, E⟩ : ∃ o, mulM ((a1, a2, a3), (b1, b2, b3), (c1, c2, c3), (d1, d2, d3)) ((i1, i2, i3), (j1, j2, j3), (k1, k2, k3), (l1, l2, l3)) = o := ⟨_, rfl⟩
  rw [E]
  have HE := Lib.hid E
  clear E
  go_enter Tryz.func31, Tryz.ntmps31
  go_wp2_with fail
  refine (valid_at V0.out (specMValid_any a1 a2 a3 b1 b2 b3 c1 c2 c3 d1 d2 d3 _)).mono ?_
  rintro e W1 ⟨rfl, hb⟩
  obtain ⟨Ba, Bb, Br⟩ : Blk W1 (w.heap.size) [.int .i64 a1, .int .i64 a2, .int .i64 a3, .int .i64 b1, .int .i64 b2, .int .i64 b3, .int .i64 c1, .int .i64 c2, .int .i64 c3, .int .i64 d1, .int .i64 d2, .int .i64 d3] ∧ Blk W1 (w.heap.size + 1) [.int .i64 i1, .int .i64 i2, .int .i64 i3, .int .i64 j1, .int .i64 j2, .int .i64 j3, .int .i64 k1, .int .i64 k2, .int .i64 k3, .int .i64 l1, .int .i64 l2, .int .i64 l3] ∧ Blk W1 (w.heap.size + 1 + 1) [.int .i64 0, .int .i64 0, .int .i64 0, .int .i64 0, .int .i64 0, .int .i64 0, .int .i64 0, .int .i64 0, .int .i64 0, .int .i64 0, .int .i64 0, .int .i64 0] := by
    refine ⟨?_, ?_, ?_⟩ <;> refine Blk.keep hb ?_ <;> (repeat' (first | (with_reducible first | assumption | refine Blk.drew ?_ | refine Blk.drewN ?_ _ | apply Blk.set | (refine Blk.new ?_; focus (first | rfl | (simp; done))) | refine Blk.alloc ?_ _ | refine Blk.other ?_ ?_ _) | exact eqL rfl | (refine neB ?_; omega)))
  have ca := Ba.cell
  have fa := Ba.free
  have la_W1 := Ba.lt
  have cb := Bb.cell
  have fb := Bb.free
  have lb_W1 := Bb.lt
  have cr := Br.cell
  have fr := Br.free
  have lr_W1 := Br.lt
  have kaW1 : Acc w W1 := by
    refine Acc.call ?_ hb
    (repeat' (first | (with_reducible first | assumption | exact Acc.refl _ | refine Acc.drew ?_ | refine Acc.drewN ?_ _ | refine Acc.alloc ?_ _ | refine Acc.setCell ?_ ?_ _) | (refine leB ?_; omega)))
  clear hb
  cases v0 with
  | false =>
    obtain rfl : o = none := HE.out.symm.trans (mulM_not1 V0.out)
    go_wp2_with fail
    refine bodyPost_ret (v := .tuple #[.agg #[.int .i64 0, .int .i64 0, .int .i64 0, .int .i64 0, .int .i64 0, .int .i64 0, .int .i64 0, .int .i64 0, .int .i64 0, .int .i64 0, .int .i64 0, .int .i64 0], .bool false]) (by simp [results, Tryz.results31, go_sem, *]) rfl ⟨fun _ _ _ _ _ _ _ _ _ _ _ _ h => (by cases h), fun _ => rfl, ?_⟩
    show Acc w _
    (repeat' (first | (with_reducible first | assumption | exact Acc.refl _ | refine Acc.drew ?_ | refine Acc.drewN ?_ _ | refine Acc.alloc ?_ _ | refine Acc.setCell ?_ ?_ _) | (refine leB ?_; omega)))
  | true =>
    go_wp2_with fail
    refine (valid_at V1.out (specMValid_any i1 i2 i3 j1 j2 j3 k1 k2 k3 l1 l2 l3 _)).mono ?_
    rintro e W2 ⟨rfl, hb⟩
    obtain ⟨Ba, Bb, Br⟩ : Blk W2 (w.heap.size) [.int .i64 a1, .int .i64 a2, .int .i64 a3, .int .i64 b1, .int .i64 b2, .int .i64 b3, .int .i64 c1, .int .i64 c2, .int .i64 c3, .int .i64 d1, .int .i64 d2, .int .i64 d3] ∧ Blk W2 (w.heap.size + 1) [.int .i64 i1, .int .i64 i2, .int .i64 i3, .int .i64 j1, .int .i64 j2, .int .i64 j3, .int .i64 k1, .int .i64 k2, .int .i64 k3, .int .i64 l1, .int .i64 l2, .int .i64 l3] ∧ Blk W2 (w.heap.size + 1 + 1) [.int .i64 0, .int .i64 0, .int .i64 0, .int .i64 0, .int .i64 0, .int .i64 0, .int .i64 0, .int .i64 0, .int .i64 0, .int .i64 0, .int .i64 0, .int .i64 0] := by
      refine ⟨?_, ?_, ?_⟩ <;> refine Blk.keep hb ?_ <;> (repeat' (first | (with_reducible first | assumption | refine Blk.drew ?_ | refine Blk.drewN ?_ _ | apply Blk.set | (refine Blk.new ?_; focus (first | rfl | (simp; done))) | refine Blk.alloc ?_ _ | refine Blk.other ?_ ?_ _) | exact eqL rfl | (refine neB ?_; omega)))
    have ca := Ba.cell
    have fa := Ba.free
    have la_W2 := Ba.lt
    have cb := Bb.cell
    have fb := Bb.free
    have lb_W2 := Bb.lt
    have cr := Br.cell
    have fr := Br.free
    have lr_W2 := Br.lt
    have kaW2 : Acc w W2 := by
      refine Acc.call ?_ hb
      (repeat' (first | (with_reducible first | assumption | exact Acc.refl _ | refine Acc.drew ?_ | refine Acc.drewN ?_ _ | refine Acc.alloc ?_ _ | refine Acc.setCell ?_ ?_ _) | (refine leB ?_; omega)))
    clear hb
    cases v1 with
    | false =>
      obtain rfl : o = none := HE.out.symm.trans (mulM_not2 V1.out)
      go_wp2_with fail
      refine bodyPost_ret (v := .tuple #[.agg #[.int .i64 0, .int .i64 0, .int .i64 0, .int .i64 0, .int .i64 0, .int .i64 0, .int .i64 0, .int .i64 0, .int .i64 0, .int .i64 0, .int .i64 0, .int .i64 0], .bool false]) (by simp [results, Tryz.results31, go_sem, *]) rfl ⟨fun _ _ _ _ _ _ _ _ _ _ _ _ h => (by cases h), fun _ => rfl, ?_⟩
      show Acc w _
      (repeat' (first | (with_reducible first | assumption | exact Acc.refl _ | refine Acc.drew ?_ | refine Acc.drewN ?_ _ | refine Acc.alloc ?_ _ | refine Acc.setCell ?_ ?_ _) | (refine leB ?_; omega)))
    | true =>
      go_wp2_with fail
      refine (gave_any Cm.out Dm.out (specInn_any a1 a2 a3 i1 i2 i3 b1 b2 b3 k1 k2 k3 _)).mono ?_
      rintro e W3 ⟨rfl, hb⟩
      obtain ⟨Ba, Bb, Br⟩ : Blk W3 (w.heap.size) [.int .i64 a1, .int .i64 a2, .int .i64 a3, .int .i64 b1, .int .i64 b2, .int .i64 b3, .int .i64 c1, .int .i64 c2, .int .i64 c3, .int .i64 d1, .int .i64 d2, .int .i64 d3] ∧ Blk W3 (w.heap.size + 1) [.int .i64 i1, .int .i64 i2, .int .i64 i3, .int .i64 j1, .int .i64 j2, .int .i64 j3, .int .i64 k1, .int .i64 k2, .int .i64 k3, .int .i64 l1, .int .i64 l2, .int .i64 l3] ∧ Blk W3 (w.heap.size + 1 + 1) [.int .i64 0, .int .i64 0, .int .i64 0, .int .i64 0, .int .i64 0, .int .i64 0, .int .i64 0, .int .i64 0, .int .i64 0, .int .i64 0, .int .i64 0, .int .i64 0] := by
        refine ⟨?_, ?_, ?_⟩ <;> refine Blk.keep hb ?_ <;> (repeat' (first | (with_reducible first | assumption | refine Blk.drew ?_ | refine Blk.drewN ?_ _ | apply Blk.set | (refine Blk.new ?_; focus (first | rfl | (simp; done))) | refine Blk.alloc ?_ _ | refine Blk.other ?_ ?_ _) | exact eqL rfl | (refine neB ?_; omega)))
      have ca := Ba.cell
      have fa := Ba.free
      have la_W3 := Ba.lt
      have cb := Bb.cell
      have fb := Bb.free
      have lb_W3 := Bb.lt
      have cr := Br.cell
      have fr := Br.free
      have lr_W3 := Br.lt
      have kaW3 : Acc w W3 := by
        refine Acc.call ?_ hb
        (repeat' (first | (with_reducible first | assumption | exact Acc.refl _ | refine Acc.drew ?_ | refine Acc.drewN ?_ _ | refine Acc.alloc ?_ _ | refine Acc.setCell ?_ ?_ _) | (refine leB ?_; omega)))
      clear hb
      go_wp2_with fail
      refine (gave_any Cn.out Dn.out (specInn_any a1 a2 a3 j1 j2 j3 b1 b2 b3 l1 l2 l3 _)).mono ?_
      rintro e W4 ⟨rfl, hb⟩
      obtain ⟨Ba, Bb, Br, Bm⟩ : Blk W4 (w.heap.size) [.int .i64 a1, .int .i64 a2, .int .i64 a3, .int .i64 b1, .int .i64 b2, .int .i64 b3, .int .i64 c1, .int .i64 c2, .int .i64 c3, .int .i64 d1, .int .i64 d2, .int .i64 d3] ∧ Blk W4 (w.heap.size + 1) [.int .i64 i1, .int .i64 i2, .int .i64 i3, .int .i64 j1, .int .i64 j2, .int .i64 j3, .int .i64 k1, .int .i64 k2, .int .i64 k3, .int .i64 l1, .int .i64 l2, .int .i64 l3] ∧ Blk W4 (w.heap.size + 1 + 1) [.int .i64 0, .int .i64 0, .int .i64 0, .int .i64 0, .int .i64 0, .int .i64 0, .int .i64 0, .int .i64 0, .int .i64 0, .int .i64 0, .int .i64 0, .int .i64 0] ∧ Blk W4 (W3.heap.size) [.int .i64 m1, .int .i64 m2, .int .i64 m3] := by
        refine ⟨?_, ?_, ?_, ?_⟩ <;> refine Blk.keep hb ?_ <;> (repeat' (first | (with_reducible first | assumption | refine Blk.drew ?_ | refine Blk.drewN ?_ _ | apply Blk.set | (refine Blk.new ?_; focus (first | rfl | (simp; done))) | refine Blk.alloc ?_ _ | refine Blk.other ?_ ?_ _) | exact eqL rfl | (refine neB ?_; omega)))
      have ca := Ba.cell
      have fa := Ba.free
      have la_W4 := Ba.lt
      have cb := Bb.cell
      have fb := Bb.free
      have lb_W4 := Bb.lt
      have cr := Br.cell
      have fr := Br.free
      have lr_W4 := Br.lt
      have cm := Bm.cell
      have fm := Bm.free
      have lm_W4 := Bm.lt
      have kaW4 : Acc w W4 := by
        refine Acc.call ?_ hb
        (repeat' (first | (with_reducible first | assumption | exact Acc.refl _ | refine Acc.drew ?_ | refine Acc.drewN ?_ _ | refine Acc.alloc ?_ _ | refine Acc.setCell ?_ ?_ _) | (refine leB ?_; omega)))
      clear hb
      go_wp2_with fail
      refine (gave_any Cp.out Dp.out (specInn_any c1 c2 c3 i1 i2 i3 d1 d2 d3 k1 k2 k3 _)).mono ?_
      rintro e W5 ⟨rfl, hb⟩
      obtain ⟨Ba, Bb, Br, Bm, Bn⟩ : Blk W5 (w.heap.size) [.int .i64 a1, .int .i64 a2, .int .i64 a3, .int .i64 b1, .int .i64 b2, .int .i64 b3, .int .i64 c1, .int .i64 c2, .int .i64 c3, .int .i64 d1, .int .i64 d2, .int .i64 d3] ∧ Blk W5 (w.heap.size + 1) [.int .i64 i1, .int .i64 i2, .int .i64 i3, .int .i64 j1, .int .i64 j2, .int .i64 j3, .int .i64 k1, .int .i64 k2, .int .i64 k3, .int .i64 l1, .int .i64 l2, .int .i64 l3] ∧ Blk W5 (w.heap.size + 1 + 1) [.int .i64 0, .int .i64 0, .int .i64 0, .int .i64 0, .int .i64 0, .int .i64 0, .int .i64 0, .int .i64 0, .int .i64 0, .int .i64 0, .int .i64 0, .int .i64 0] ∧ Blk W5 (W3.heap.size) [.int .i64 m1, .int .i64 m2, .int .i64 m3] ∧ Blk W5 (W4.heap.size) [.int .i64 n1, .int .i64 n2, .int .i64 n3] := by
        refine ⟨?_, ?_, ?_, ?_, ?_⟩ <;> refine Blk.keep hb ?_ <;> (repeat' (first | (with_reducible first | assumption | refine Blk.drew ?_ | refine Blk.drewN ?_ _ | apply Blk.set | (refine Blk.new ?_; focus (first | rfl | (simp; done))) | refine Blk.alloc ?_ _ | refine Blk.other ?_ ?_ _) | exact eqL rfl | (refine neB ?_; omega)))
      have ca := Ba.cell
      have fa := Ba.free
      have la_W5 := Ba.lt
      have cb := Bb.cell
      have fb := Bb.free
      have lb_W5 := Bb.lt
      have cr := Br.cell
      have fr := Br.free
      have lr_W5 := Br.lt
      have cm := Bm.cell
      have fm := Bm.free
      have lm_W5 := Bm.lt
      have cn := Bn.cell
      have fn := Bn.free
      have ln_W5 := Bn.lt
      have kaW5 : Acc w W5 := by
        refine Acc.call ?_ hb
        (repeat' (first | (with_reducible first | assumption | exact Acc.refl _ | refine Acc.drew ?_ | refine Acc.drewN ?_ _ | refine Acc.alloc ?_ _ | refine Acc.setCell ?_ ?_ _) | (refine leB ?_; omega)))
      clear hb
      go_wp2_with fail
      refine (gave_any Cx.out Dx.out (specInn_any c1 c2 c3 j1 j2 j3 d1 d2 d3 l1 l2 l3 _)).mono ?_
      rintro e W6 ⟨rfl, hb⟩
      obtain ⟨Ba, Bb, Br, Bm, Bn, Bp⟩ : Blk W6 (w.heap.size) [.int .i64 a1, .int .i64 a2, .int .i64 a3, .int .i64 b1, .int .i64 b2, .int .i64 b3, .int .i64 c1, .int .i64 c2, .int .i64 c3, .int .i64 d1, .int .i64 d2, .int .i64 d3] ∧ Blk W6 (w.heap.size + 1) [.int .i64 i1, .int .i64 i2, .int .i64 i3, .int .i64 j1, .int .i64 j2, .int .i64 j3, .int .i64 k1, .int .i64 k2, .int .i64 k3, .int .i64 l1, .int .i64 l2, .int .i64 l3] ∧ Blk W6 (w.heap.size + 1 + 1) [.int .i64 0, .int .i64 0, .int .i64 0, .int .i64 0, .int .i64 0, .int .i64 0, .int .i64 0, .int .i64 0, .int .i64 0, .int .i64 0, .int .i64 0, .int .i64 0] ∧ Blk W6 (W3.heap.size) [.int .i64 m1, .int .i64 m2, .int .i64 m3] ∧ Blk W6 (W4.heap.size) [.int .i64 n1, .int .i64 n2, .int .i64 n3] ∧ Blk W6 (W5.heap.size) [.int .i64 p1, .int .i64 p2, .int .i64 p3] := by
        refine ⟨?_, ?_, ?_, ?_, ?_, ?_⟩ <;> refine Blk.keep hb ?_ <;> (repeat' (first | (with_reducible first | assumption | refine Blk.drew ?_ | refine Blk.drewN ?_ _ | apply Blk.set | (refine Blk.new ?_; focus (first | rfl | (simp; done))) | refine Blk.alloc ?_ _ | refine Blk.other ?_ ?_ _) | exact eqL rfl | (refine neB ?_; omega)))
      have ca := Ba.cell
      have fa := Ba.free
      have la_W6 := Ba.lt
      have cb := Bb.cell
      have fb := Bb.free
      have lb_W6 := Bb.lt
      have cr := Br.cell
      have fr := Br.free
      have lr_W6 := Br.lt
      have cm := Bm.cell
      have fm := Bm.free
      have lm_W6 := Bm.lt
      have cn := Bn.cell
      have fn := Bn.free
      have ln_W6 := Bn.lt
      have cp := Bp.cell
      have fp := Bp.free
      have lp_W6 := Bp.lt
      have kaW6 : Acc w W6 := by
        refine Acc.call ?_ hb
        (repeat' (first | (with_reducible first | assumption | exact Acc.refl _ | refine Acc.drew ?_ | refine Acc.drewN ?_ _ | refine Acc.alloc ?_ _ | refine Acc.setCell ?_ ?_ _) | (refine leB ?_; omega)))
      clear hb
      cases km with
      | false =>
        obtain rfl : o = none := HE.out.symm.trans (show quadO (innF a1 a2 a3 i1 i2 i3 b1 b2 b3 k1 k2 k3) (innF a1 a2 a3 j1 j2 j3 b1 b2 b3 l1 l2 l3) (innF c1 c2 c3 i1 i2 i3 d1 d2 d3 k1 k2 k3) (innF c1 c2 c3 j1 j2 j3 d1 d2 d3 l1 l2 l3) = none by rw [none_of Dm.out]; exact quad_n1 _ _ _)
        go_wp2_with fail
        refine (specFour_false m1 m2 m3 n1 n2 n3 p1 p2 p3 x1 x2 x3 _).mono ?_
        rintro e W7 ⟨rfl, hb⟩
        obtain ⟨Ba, Bb, Br, Bm, Bn, Bp, Bx⟩ : Blk W7 (w.heap.size) [.int .i64 a1, .int .i64 a2, .int .i64 a3, .int .i64 b1, .int .i64 b2, .int .i64 b3, .int .i64 c1, .int .i64 c2, .int .i64 c3, .int .i64 d1, .int .i64 d2, .int .i64 d3] ∧ Blk W7 (w.heap.size + 1) [.int .i64 i1, .int .i64 i2, .int .i64 i3, .int .i64 j1, .int .i64 j2, .int .i64 j3, .int .i64 k1, .int .i64 k2, .int .i64 k3, .int .i64 l1, .int .i64 l2, .int .i64 l3] ∧ Blk W7 (w.heap.size + 1 + 1) [.int .i64 0, .int .i64 0, .int .i64 0, .int .i64 0, .int .i64 0, .int .i64 0, .int .i64 0, .int .i64 0, .int .i64 0, .int .i64 0, .int .i64 0, .int .i64 0] ∧ Blk W7 (W3.heap.size) [.int .i64 m1, .int .i64 m2, .int .i64 m3] ∧ Blk W7 (W4.heap.size) [.int .i64 n1, .int .i64 n2, .int .i64 n3] ∧ Blk W7 (W5.heap.size) [.int .i64 p1, .int .i64 p2, .int .i64 p3] ∧ Blk W7 (W6.heap.size) [.int .i64 x1, .int .i64 x2, .int .i64 x3] := by
          refine ⟨?_, ?_, ?_, ?_, ?_, ?_, ?_⟩ <;> refine Blk.keep hb ?_ <;> (repeat' (first | (with_reducible first | assumption | refine Blk.drew ?_ | refine Blk.drewN ?_ _ | apply Blk.set | (refine Blk.new ?_; focus (first | rfl | (simp; done))) | refine Blk.alloc ?_ _ | refine Blk.other ?_ ?_ _) | exact eqL rfl | (refine neB ?_; omega)))
        have ca := Ba.cell
        have fa := Ba.free
        have la_W7 := Ba.lt
        have cb := Bb.cell
        have fb := Bb.free
        have lb_W7 := Bb.lt
        have cr := Br.cell
        have fr := Br.free
        have lr_W7 := Br.lt
        have cm := Bm.cell
        have fm := Bm.free
        have lm_W7 := Bm.lt
        have cn := Bn.cell
        have fn := Bn.free
        have ln_W7 := Bn.lt
        have cp := Bp.cell
        have fp := Bp.free
        have lp_W7 := Bp.lt
        have cx := Bx.cell
        have fx := Bx.free
        have lx_W7 := Bx.lt
        have kaW7 : Acc w W7 := by
          refine Acc.call ?_ hb
          (repeat' (first | (with_reducible first | assumption | exact Acc.refl _ | refine Acc.drew ?_ | refine Acc.drewN ?_ _ | refine Acc.alloc ?_ _ | refine Acc.setCell ?_ ?_ _) | (refine leB ?_; omega)))
        clear hb
        go_wp2_with fail
        refine bodyPost_ret (v := .tuple #[.agg #[.int .i64 0, .int .i64 0, .int .i64 0, .int .i64 0, .int .i64 0, .int .i64 0, .int .i64 0, .int .i64 0, .int .i64 0, .int .i64 0, .int .i64 0, .int .i64 0], .bool false]) (by simp [results, Tryz.results31, go_sem, *]) rfl ⟨fun _ _ _ _ _ _ _ _ _ _ _ _ h => (by cases h), fun _ => rfl, ?_⟩
        show Acc w _
        (repeat' (first | (with_reducible first | assumption | exact Acc.refl _ | refine Acc.drew ?_ | refine Acc.drewN ?_ _ | refine Acc.alloc ?_ _ | refine Acc.setCell ?_ ?_ _) | (refine leB ?_; omega)))
      | true =>
        cases kn with
        | false =>
          obtain rfl : o = none := HE.out.symm.trans (show quadO (innF a1 a2 a3 i1 i2 i3 b1 b2 b3 k1 k2 k3) (innF a1 a2 a3 j1 j2 j3 b1 b2 b3 l1 l2 l3) (innF c1 c2 c3 i1 i2 i3 d1 d2 d3 k1 k2 k3) (innF c1 c2 c3 j1 j2 j3 d1 d2 d3 l1 l2 l3) = none by rw [none_of Dn.out]; exact quad_n2 _ _ _)
          go_wp2_with fail
          refine (specFour_false m1 m2 m3 n1 n2 n3 p1 p2 p3 x1 x2 x3 _).mono ?_
          rintro e W7 ⟨rfl, hb⟩
          obtain ⟨Ba, Bb, Br, Bm, Bn, Bp, Bx⟩ : Blk W7 (w.heap.size) [.int .i64 a1, .int .i64 a2, .int .i64 a3, .int .i64 b1, .int .i64 b2, .int .i64 b3, .int .i64 c1, .int .i64 c2, .int .i64 c3, .int .i64 d1, .int .i64 d2, .int .i64 d3] ∧ Blk W7 (w.heap.size + 1) [.int .i64 i1, .int .i64 i2, .int .i64 i3, .int .i64 j1, .int .i64 j2, .int .i64 j3, .int .i64 k1, .int .i64 k2, .int .i64 k3, .int .i64 l1, .int .i64 l2, .int .i64 l3] ∧ Blk W7 (w.heap.size + 1 + 1) [.int .i64 0, .int .i64 0, .int .i64 0, .int .i64 0, .int .i64 0, .int .i64 0, .int .i64 0, .int .i64 0, .int .i64 0, .int .i64 0, .int .i64 0, .int .i64 0] ∧ Blk W7 (W3.heap.size) [.int .i64 m1, .int .i64 m2, .int .i64 m3] ∧ Blk W7 (W4.heap.size) [.int .i64 n1, .int .i64 n2, .int .i64 n3] ∧ Blk W7 (W5.heap.size) [.int .i64 p1, .int .i64 p2, .int .i64 p3] ∧ Blk W7 (W6.heap.size) [.int .i64 x1, .int .i64 x2, .int .i64 x3] := by
            refine ⟨?_, ?_, ?_, ?_, ?_, ?_, ?_⟩ <;> refine Blk.keep hb ?_ <;> (repeat' (first | (with_reducible first | assumption | refine Blk.drew ?_ | refine Blk.drewN ?_ _ | apply Blk.set | (refine Blk.new ?_; focus (first | rfl | (simp; done))) | refine Blk.alloc ?_ _ | refine Blk.other ?_ ?_ _) | exact eqL rfl | (refine neB ?_; omega)))
          have ca := Ba.cell
          have fa := Ba.free
          have la_W7 := Ba.lt
          have cb := Bb.cell
          have fb := Bb.free
          have lb_W7 := Bb.lt
          have cr := Br.cell
          have fr := Br.free
          have lr_W7 := Br.lt
          have cm := Bm.cell
          have fm := Bm.free
          have lm_W7 := Bm.lt
          have cn := Bn.cell
          have fn := Bn.free
          have ln_W7 := Bn.lt
          have cp := Bp.cell
          have fp := Bp.free
          have lp_W7 := Bp.lt
          have cx := Bx.cell
          have fx := Bx.free
          have lx_W7 := Bx.lt
          have kaW7 : Acc w W7 := by
            refine Acc.call ?_ hb
            (repeat' (first | (with_reducible first | assumption | exact Acc.refl _ | refine Acc.drew ?_ | refine Acc.drewN ?_ _ | refine Acc.alloc ?_ _ | refine Acc.setCell ?_ ?_ _) | (refine leB ?_; omega)))
          clear hb
          go_wp2_with fail
          refine bodyPost_ret (v := .tuple #[.agg #[.int .i64 0, .int .i64 0, .int .i64 0, .int .i64 0, .int .i64 0, .int .i64 0, .int .i64 0, .int .i64 0, .int .i64 0, .int .i64 0, .int .i64 0, .int .i64 0], .bool false]) (by simp [results, Tryz.results31, go_sem, *]) rfl ⟨fun _ _ _ _ _ _ _ _ _ _ _ _ h => (by cases h), fun _ => rfl, ?_⟩
          show Acc w _
          (repeat' (first | (with_reducible first | assumption | exact Acc.refl _ | refine Acc.drew ?_ | refine Acc.drewN ?_ _ | refine Acc.alloc ?_ _ | refine Acc.setCell ?_ ?_ _) | (refine leB ?_; omega)))
        | true =>
          cases kp with
          | false =>
            obtain rfl : o = none := HE.out.symm.trans (show quadO (innF a1 a2 a3 i1 i2 i3 b1 b2 b3 k1 k2 k3) (innF a1 a2 a3 j1 j2 j3 b1 b2 b3 l1 l2 l3) (innF c1 c2 c3 i1 i2 i3 d1 d2 d3 k1 k2 k3) (innF c1 c2 c3 j1 j2 j3 d1 d2 d3 l1 l2 l3) = none by rw [none_of Dp.out]; exact quad_n3 _ _ _)
            go_wp2_with fail
            refine (specFour_false m1 m2 m3 n1 n2 n3 p1 p2 p3 x1 x2 x3 _).mono ?_
            rintro e W7 ⟨rfl, hb⟩
            obtain ⟨Ba, Bb, Br, Bm, Bn, Bp, Bx⟩ : Blk W7 (w.heap.size) [.int .i64 a1, .int .i64 a2, .int .i64 a3, .int .i64 b1, .int .i64 b2, .int .i64 b3, .int .i64 c1, .int .i64 c2, .int .i64 c3, .int .i64 d1, .int .i64 d2, .int .i64 d3] ∧ Blk W7 (w.heap.size + 1) [.int .i64 i1, .int .i64 i2, .int .i64 i3, .int .i64 j1, .int .i64 j2, .int .i64 j3, .int .i64 k1, .int .i64 k2, .int .i64 k3, .int .i64 l1, .int .i64 l2, .int .i64 l3] ∧ Blk W7 (w.heap.size + 1 + 1) [.int .i64 0, .int .i64 0, .int .i64 0, .int .i64 0, .int .i64 0, .int .i64 0, .int .i64 0, .int .i64 0, .int .i64 0, .int .i64 0, .int .i64 0, .int .i64 0] ∧ Blk W7 (W3.heap.size) [.int .i64 m1, .int .i64 m2, .int .i64 m3] ∧ Blk W7 (W4.heap.size) [.int .i64 n1, .int .i64 n2, .int .i64 n3] ∧ Blk W7 (W5.heap.size) [.int .i64 p1, .int .i64 p2, .int .i64 p3] ∧ Blk W7 (W6.heap.size) [.int .i64 x1, .int .i64 x2, .int .i64 x3] := by
              refine ⟨?_, ?_, ?_, ?_, ?_, ?_, ?_⟩ <;> refine Blk.keep hb ?_ <;> (repeat' (first | (with_reducible first | assumption | refine Blk.drew ?_ | refine Blk.drewN ?_ _ | apply Blk.set | (refine Blk.new ?_; focus (first | rfl | (simp; done))) | refine Blk.alloc ?_ _ | refine Blk.other ?_ ?_ _) | exact eqL rfl | (refine neB ?_; omega)))
            have ca := Ba.cell
            have fa := Ba.free
            have la_W7 := Ba.lt
            have cb := Bb.cell
            have fb := Bb.free
            have lb_W7 := Bb.lt
            have cr := Br.cell
            have fr := Br.free
            have lr_W7 := Br.lt
            have cm := Bm.cell
            have fm := Bm.free
            have lm_W7 := Bm.lt
            have cn := Bn.cell
            have fn := Bn.free
            have ln_W7 := Bn.lt
            have cp := Bp.cell
            have fp := Bp.free
            have lp_W7 := Bp.lt
            have cx := Bx.cell
            have fx := Bx.free
            have lx_W7 := Bx.lt
            have kaW7 : Acc w W7 := by
              refine Acc.call ?_ hb
              (repeat' (first | (with_reducible first | assumption | exact Acc.refl _ | refine Acc.drew ?_ | refine Acc.drewN ?_ _ | refine Acc.alloc ?_ _ | refine Acc.setCell ?_ ?_ _) | (refine leB ?_; omega)))
            clear hb
            go_wp2_with fail
            refine bodyPost_ret (v := .tuple #[.agg #[.int .i64 0, .int .i64 0, .int .i64 0, .int .i64 0, .int .i64 0, .int .i64 0, .int .i64 0, .int .i64 0, .int .i64 0, .int .i64 0, .int .i64 0, .int .i64 0], .bool false]) (by simp [results, Tryz.results31, go_sem, *]) rfl ⟨fun _ _ _ _ _ _ _ _ _ _ _ _ h => (by cases h), fun _ => rfl, ?_⟩
            show Acc w _
            (repeat' (first | (with_reducible first | assumption | exact Acc.refl _ | refine Acc.drew ?_ | refine Acc.drewN ?_ _ | refine Acc.alloc ?_ _ | refine Acc.setCell ?_ ?_ _) | (refine leB ?_; omega)))
          | true =>
            cases kx with
            | false =>
              obtain rfl : o = none := HE.out.symm.trans (show quadO (innF a1 a2 a3 i1 i2 i3 b1 b2 b3 k1 k2 k3) (innF a1 a2 a3 j1 j2 j3 b1 b2 b3 l1 l2 l3) (innF c1 c2 c3 i1 i2 i3 d1 d2 d3 k1 k2 k3) (innF c1 c2 c3 j1 j2 j3 d1 d2 d3 l1 l2 l3) = none by rw [none_of Dx.out]; exact quad_n4 _ _ _)
              go_wp2_with fail
              refine (specFour_false m1 m2 m3 n1 n2 n3 p1 p2 p3 x1 x2 x3 _).mono ?_
              rintro e W7 ⟨rfl, hb⟩
              obtain ⟨Ba, Bb, Br, Bm, Bn, Bp, Bx⟩ : Blk W7 (w.heap.size) [.int .i64 a1, .int .i64 a2, .int .i64 a3, .int .i64 b1, .int .i64 b2, .int .i64 b3, .int .i64 c1, .int .i64 c2, .int .i64 c3, .int .i64 d1, .int .i64 d2, .int .i64 d3] ∧ Blk W7 (w.heap.size + 1) [.int .i64 i1, .int .i64 i2, .int .i64 i3, .int .i64 j1, .int .i64 j2, .int .i64 j3, .int .i64 k1, .int .i64 k2, .int .i64 k3, .int .i64 l1, .int .i64 l2, .int .i64 l3] ∧ Blk W7 (w.heap.size + 1 + 1) [.int .i64 0, .int .i64 0, .int .i64 0, .int .i64 0, .int .i64 0, .int .i64 0, .int .i64 0, .int .i64 0, .int .i64 0, .int .i64 0, .int .i64 0, .int .i64 0] ∧ Blk W7 (W3.heap.size) [.int .i64 m1, .int .i64 m2, .int .i64 m3] ∧ Blk W7 (W4.heap.size) [.int .i64 n1, .int .i64 n2, .int .i64 n3] ∧ Blk W7 (W5.heap.size) [.int .i64 p1, .int .i64 p2, .int .i64 p3] ∧ Blk W7 (W6.heap.size) [.int .i64 x1, .int .i64 x2, .int .i64 x3] := by
                refine ⟨?_, ?_, ?_, ?_, ?_, ?_, ?_⟩ <;> refine Blk.keep hb ?_ <;> (repeat' (first | (with_reducible first | assumption | refine Blk.drew ?_ | refine Blk.drewN ?_ _ | apply Blk.set | (refine Blk.new ?_; focus (first | rfl | (simp; done))) | refine Blk.alloc ?_ _ | refine Blk.other ?_ ?_ _) | exact eqL rfl | (refine neB ?_; omega)))
              have ca := Ba.cell
              have fa := Ba.free
              have la_W7 := Ba.lt
              have cb := Bb.cell
              have fb := Bb.free
              have lb_W7 := Bb.lt
              have cr := Br.cell
              have fr := Br.free
              have lr_W7 := Br.lt
              have cm := Bm.cell
              have fm := Bm.free
              have lm_W7 := Bm.lt
              have cn := Bn.cell
              have fn := Bn.free
              have ln_W7 := Bn.lt
              have cp := Bp.cell
              have fp := Bp.free
              have lp_W7 := Bp.lt
              have cx := Bx.cell
              have fx := Bx.free
              have lx_W7 := Bx.lt
              have kaW7 : Acc w W7 := by
                refine Acc.call ?_ hb
                (repeat' (first | (with_reducible first | assumption | exact Acc.refl _ | refine Acc.drew ?_ | refine Acc.drewN ?_ _ | refine Acc.alloc ?_ _ | refine Acc.setCell ?_ ?_ _) | (refine leB ?_; omega)))
              clear hb
              go_wp2_with fail
              refine bodyPost_ret (v := .tuple #[.agg #[.int .i64 0, .int .i64 0, .int .i64 0, .int .i64 0, .int .i64 0, .int .i64 0, .int .i64 0, .int .i64 0, .int .i64 0, .int .i64 0, .int .i64 0, .int .i64 0], .bool false]) (by simp [results, Tryz.results31, go_sem, *]) rfl ⟨fun _ _ _ _ _ _ _ _ _ _ _ _ h => (by cases h), fun _ => rfl, ?_⟩
              show Acc w _
              (repeat' (first | (with_reducible first | assumption | exact Acc.refl _ | refine Acc.drew ?_ | refine Acc.drewN ?_ _ | refine Acc.alloc ?_ _ | refine Acc.setCell ?_ ?_ _) | (refine leB ?_; omega)))
            | true =>
              obtain rfl : o = some ((m1, m2, m3), (n1, n2, n3), (p1, p2, p3), (x1, x2, x3)) := HE.out.symm.trans (show quadO (innF a1 a2 a3 i1 i2 i3 b1 b2 b3 k1 k2 k3) (innF a1 a2 a3 j1 j2 j3 b1 b2 b3 l1 l2 l3) (innF c1 c2 c3 i1 i2 i3 d1 d2 d3 k1 k2 k3) (innF c1 c2 c3 j1 j2 j3 d1 d2 d3 l1 l2 l3) = _ from quad_of (some_of Cm.out Dm.out) (some_of Cn.out Dn.out) (some_of Cp.out Dp.out) (some_of Cx.out Dx.out))
              go_wp2_with fail
              refine (specFour_true m1 m2 m3 n1 n2 n3 p1 p2 p3 x1 x2 x3 _).mono ?_
              rintro e W7 ⟨rfl, hb⟩
              obtain ⟨Ba, Bb, Br, Bm, Bn, Bp, Bx⟩ : Blk W7 (w.heap.size) [.int .i64 a1, .int .i64 a2, .int .i64 a3, .int .i64 b1, .int .i64 b2, .int .i64 b3, .int .i64 c1, .int .i64 c2, .int .i64 c3, .int .i64 d1, .int .i64 d2, .int .i64 d3] ∧ Blk W7 (w.heap.size + 1) [.int .i64 i1, .int .i64 i2, .int .i64 i3, .int .i64 j1, .int .i64 j2, .int .i64 j3, .int .i64 k1, .int .i64 k2, .int .i64 k3, .int .i64 l1, .int .i64 l2, .int .i64 l3] ∧ Blk W7 (w.heap.size + 1 + 1) [.int .i64 0, .int .i64 0, .int .i64 0, .int .i64 0, .int .i64 0, .int .i64 0, .int .i64 0, .int .i64 0, .int .i64 0, .int .i64 0, .int .i64 0, .int .i64 0] ∧ Blk W7 (W3.heap.size) [.int .i64 m1, .int .i64 m2, .int .i64 m3] ∧ Blk W7 (W4.heap.size) [.int .i64 n1, .int .i64 n2, .int .i64 n3] ∧ Blk W7 (W5.heap.size) [.int .i64 p1, .int .i64 p2, .int .i64 p3] ∧ Blk W7 (W6.heap.size) [.int .i64 x1, .int .i64 x2, .int .i64 x3] := by
                refine ⟨?_, ?_, ?_, ?_, ?_, ?_, ?_⟩ <;> refine Blk.keep hb ?_ <;> (repeat' (first | (with_reducible first | assumption | refine Blk.drew ?_ | refine Blk.drewN ?_ _ | apply Blk.set | (refine Blk.new ?_; focus (first | rfl | (simp; done))) | refine Blk.alloc ?_ _ | refine Blk.other ?_ ?_ _) | exact eqL rfl | (refine neB ?_; omega)))
              have ca := Ba.cell
              have fa := Ba.free
              have la_W7 := Ba.lt
              have cb := Bb.cell
              have fb := Bb.free
              have lb_W7 := Bb.lt
              have cr := Br.cell
              have fr := Br.free
              have lr_W7 := Br.lt
              have cm := Bm.cell
              have fm := Bm.free
              have lm_W7 := Bm.lt
              have cn := Bn.cell
              have fn := Bn.free
              have ln_W7 := Bn.lt
              have cp := Bp.cell
              have fp := Bp.free
              have lp_W7 := Bp.lt
              have cx := Bx.cell
              have fx := Bx.free
              have lx_W7 := Bx.lt
              have kaW7 : Acc w W7 := by
                refine Acc.call ?_ hb
                (repeat' (first | (with_reducible first | assumption | exact Acc.refl _ | refine Acc.drew ?_ | refine Acc.drewN ?_ _ | refine Acc.alloc ?_ _ | refine Acc.setCell ?_ ?_ _) | (refine leB ?_; omega)))
              clear hb
              go_wp2_with fail
              refine bodyPost_ret (v := .tuple #[.agg #[.int .i64 m1, .int .i64 m2, .int .i64 m3, .int .i64 n1, .int .i64 n2, .int .i64 n3, .int .i64 p1, .int .i64 p2, .int .i64 p3, .int .i64 x1, .int .i64 x2, .int .i64 x3], .bool true]) (by simp [results, Tryz.results31, go_sem, *]) rfl ⟨fun _ _ _ _ _ _ _ _ _ _ _ _ h => (by cases h; rfl), fun h => (by cases h), ?_⟩
              show Acc w _
              (repeat' (first | (with_reducible first | assumption | exact Acc.refl _ | refine Acc.drew ?_ | refine Acc.drewN ?_ _ | refine Acc.alloc ?_ _ | refine Acc.setCell ?_ ?_ _) | (refine leB ?_; omega)))
set_option maxHeartbeats 16000000 in
theorem specMAdj_any (a1 a2 a3 b1 b2 b3 c1 c2 c3 d1 d2 d3 : Int) (w : World) :
    Calls Tryz.prog 107 #[.agg #[.int .i64 a1, .int .i64 a2, .int .i64 a3, .int .i64 b1, .int .i64 b2, .int .i64 b3, .int .i64 c1, .int .i64 c2, .int .i64 c3, .int .i64 d1, .int .i64 d2, .int .i64 d3]] w (Gave12 (adjM ((a1, a2, a3), (b1, b2, b3), (c1, c2, c3), (d1, d2, d3))) w) := by
  obtain ⟨⟨m1, m2, m3⟩, hv⟩ : ∃ o, partsR (mirrorF a1 a2 a3) = o := ⟨_, rfl⟩
  obtain ⟨km, hk⟩ : ∃ k, okR (mirrorF a1 a2 a3) = k := ⟨_, rfl⟩
  have Cm := Lib.hid hv
  have Dm := Lib.hid hk
  clear hv hk
  obtain ⟨⟨n1, n2, n3⟩, hv⟩ : ∃ o, partsR (mirrorF c1 c2 c3) = o := ⟨_, rfl⟩
  obtain ⟨kn, hk⟩ : ∃ k, okR (mirrorF c1 c2 c3) = k := ⟨_, rfl⟩
  have Cn := Lib.hid hv
  have Dn := Lib.hid hk
  clear hv hk
  obtain ⟨⟨p1, p2, p3⟩, hv⟩ : ∃ o, partsR (mirrorF b1 b2 b3) = o := ⟨_, rfl⟩
  obtain ⟨kp, hk⟩ : ∃ k, okR (mirrorF b1 b2 b3) = k := ⟨_, rfl⟩
  have Cp := Lib.hid hv
  have Dp := Lib.hid hk
  clear hv hk
  obtain ⟨⟨x1, x2, x3⟩, hv⟩ : ∃ o, partsR (mirrorF d1 d2 d3) = o := ⟨_, rfl⟩
  obtain ⟨kx, hk⟩ : ∃ k, okR (mirrorF d1 d2 d3) = k := ⟨_, rfl⟩
  have Cx := Lib.hid hv
  have Dx := Lib.hid hk
  clear hv hk
  obtain ⟨o, E⟩ : ∃ o, adjM ((a1, a2, a3), (b1, b2, b3), (c1, c2, c3), (d1, d2, d3)) = o := ⟨_, rfl⟩
  rw [E]
  have HE := Lib.hid E
  clear E
  go_enter Tryz.func107, Tryz.ntmps107
  go_wp2_with fail
  refine (gave_any Cm.out Dm.out (specMirror_any a1 a2 a3 _)).mono ?_
  rintro e W1 ⟨rfl, hb⟩
  obtain ⟨Ba, Br⟩ : Blk W1 (w.heap.size) [.int .i64 a1, .int .i64 a2, .int .i64 a3, .int .i64 b1, .int .i64 b2, .int .i64 b3, .int .i64 c1, .int .i64 c2, .int .i64 c3, .int .i64 d1, .int .i64 d2, .int .i64 d3] ∧ Blk W1 (w.heap.size + 1) [.int .i64 0, .int .i64 0, .int .i64 0, .int .i64 0, .int .i64 0, .int .i64 0, .int .i64 0, .int .i64 0, .int .i64 0, .int .i64 0, .int .i64 0, .int .i64 0] := by
    refine ⟨?_, ?_⟩ <;> refine Blk.keep hb ?_ <;> (repeat' (first | (with_reducible first | assumption | refine Blk.drew ?_ | refine Blk.drewN ?_ _ | apply Blk.set | (refine Blk.new ?_; focus (first | rfl | (simp; done))) | refine Blk.alloc ?_ _ | refine Blk.other ?_ ?_ _) | exact eqL rfl | (refine neB ?_; omega)))
  have ca := Ba.cell
  have fa := Ba.free
  have la_W1 := Ba.lt
  have cr := Br.cell
  have fr := Br.free
  have lr_W1 := Br.lt
  have kaW1 : Acc w W1 := by
    refine Acc.call ?_ hb
    (repeat' (first | (with_reducible first | assumption | exact Acc.refl _ | refine Acc.drew ?_ | refine Acc.drewN ?_ _ | refine Acc.alloc ?_ _ | refine Acc.setCell ?_ ?_ _) | (refine leB ?_; omega)))
  clear hb
  go_wp2_with fail
  refine (gave_any Cn.out Dn.out (specMirror_any c1 c2 c3 _)).mono ?_
  rintro e W2 ⟨rfl, hb⟩
  obtain ⟨Ba, Br, Bm⟩ : Blk W2 (w.heap.size) [.int .i64 a1, .int .i64 a2, .int .i64 a3, .int .i64 b1, .int .i64 b2, .int .i64 b3, .int .i64 c1, .int .i64 c2, .int .i64 c3, .int .i64 d1, .int .i64 d2, .int .i64 d3] ∧ Blk W2 (w.heap.size + 1) [.int .i64 0, .int .i64 0, .int .i64 0, .int .i64 0, .int .i64 0, .int .i64 0, .int .i64 0, .int .i64 0, .int .i64 0, .int .i64 0, .int .i64 0, .int .i64 0] ∧ Blk W2 (W1.heap.size) [.int .i64 m1, .int .i64 m2, .int .i64 m3] := by
    refine ⟨?_, ?_, ?_⟩ <;> refine Blk.keep hb ?_ <;> (repeat' (first | (with_reducible first | assumption | refine Blk.drew ?_ | refine Blk.drewN ?_ _ | apply Blk.set | (refine Blk.new ?_; focus (first | rfl | (simp; done))) | refine Blk.alloc ?_ _ | refine Blk.other ?_ ?_ _) | exact eqL rfl | (refine neB ?_; omega)))
  have ca := Ba.cell
  have fa := Ba.free
  have la_W2 := Ba.lt
  have cr := Br.cell
  have fr := Br.free
  have lr_W2 := Br.lt
  have cm := Bm.cell
  have fm := Bm.free
  have lm_W2 := Bm.lt
  have kaW2 : Acc w W2 := by
    refine Acc.call ?_ hb
    (repeat' (first | (with_reducible first | assumption | exact Acc.refl _ | refine Acc.drew ?_ | refine Acc.drewN ?_ _ | refine Acc.alloc ?_ _ | refine Acc.setCell ?_ ?_ _) | (refine leB ?_; omega)))
  clear hb
  go_wp2_with fail
  refine (gave_any Cp.out Dp.out (specMirror_any b1 b2 b3 _)).mono ?_
  rintro e W3 ⟨rfl, hb⟩
  obtain ⟨Ba, Br, Bm, Bn⟩ : Blk W3 (w.heap.size) [.int .i64 a1, .int .i64 a2, .int .i64 a3, .int .i64 b1, .int .i64 b2, .int .i64 b3, .int .i64 c1, .int .i64 c2, .int .i64 c3, .int .i64 d1, .int .i64 d2, .int .i64 d3] ∧ Blk W3 (w.heap.size + 1) [.int .i64 0, .int .i64 0, .int .i64 0, .int .i64 0, .int .i64 0, .int .i64 0, .int .i64 0, .int .i64 0, .int .i64 0, .int .i64 0, .int .i64 0, .int .i64 0] ∧ Blk W3 (W1.heap.size) [.int .i64 m1, .int .i64 m2, .int .i64 m3] ∧ Blk W3 (W2.heap.size) [.int .i64 n1, .int .i64 n2, .int .i64 n3] := by
    refine ⟨?_, ?_, ?_, ?_⟩ <;> refine Blk.keep hb ?_ <;> (repeat' (first | (with_reducible first | assumption | refine Blk.drew ?_ | refine Blk.drewN ?_ _ | apply Blk.set | (refine Blk.new ?_; focus (first | rfl | (simp; done))) | refine Blk.alloc ?_ _ | refine Blk.other ?_ ?_ _) | exact eqL rfl | (refine neB ?_; omega)))
  have ca := Ba.cell
  have fa := Ba.free
  have la_W3 := Ba.lt
  have cr := Br.cell
  have fr := Br.free
  have lr_W3 := Br.lt
  have cm := Bm.cell
  have fm := Bm.free
  have lm_W3 := Bm.lt
  have cn := Bn.cell
  have fn := Bn.free
  have ln_W3 := Bn.lt
  have kaW3 : Acc w W3 := by
    refine Acc.call ?_ hb
    (repeat' (first | (with_reducible first | assumption | exact Acc.refl _ | refine Acc.drew ?_ | refine Acc.drewN ?_ _ | refine Acc.alloc ?_ _ | refine Acc.setCell ?_ ?_ _) | (refine leB ?_; omega)))
  clear hb
  go_wp2_with fail
  refine (gave_any Cx.out Dx.out (specMirror_any d1 d2 d3 _)).mono ?_
  rintro e W4 ⟨rfl, hb⟩
  obtain ⟨Ba, Br, Bm, Bn, Bp⟩ : Blk W4 (w.heap.size) [.int .i64 a1, .int .i64 a2, .int .i64 a3, .int .i64 b1, .int .i64 b2, .int .i64 b3, .int .i64 c1, .int .i64 c2, .int .i64 c3, .int .i64 d1, .int .i64 d2, .int .i64 d3] ∧ Blk W4 (w.heap.size + 1) [.int .i64 0, .int .i64 0, .int .i64 0, .int .i64 0, .int .i64 0, .int .i64 0, .int .i64 0, .int .i64 0, .int .i64 0, .int .i64 0, .int .i64 0, .int .i64 0] ∧ Blk W4 (W1.heap.size) [.int .i64 m1, .int .i64 m2, .int .i64 m3] ∧ Blk W4 (W2.heap.size) [.int .i64 n1, .int .i64 n2, .int .i64 n3] ∧ Blk W4 (W3.heap.size) [.int .i64 p1, .int .i64 p2, .int .i64 p3] := by
    refine ⟨?_, ?_, ?_, ?_, ?_⟩ <;> refine Blk.keep hb ?_ <;> (repeat' (first | (with_reducible first | assumption | refine Blk.drew ?_ | refine Blk.drewN ?_ _ | apply Blk.set | (refine Blk.new ?_; focus (first | rfl | (simp; done))) | refine Blk.alloc ?_ _ | refine Blk.other ?_ ?_ _) | exact eqL rfl | (refine neB ?_; omega)))
  have ca := Ba.cell
  have fa := Ba.free
  have la_W4 := Ba.lt
  have cr := Br.cell
  have fr := Br.free
  have lr_W4 := Br.lt
  have cm := Bm.cell
  have fm := Bm.free
  have lm_W4 := Bm.lt
  have cn := Bn.cell
  have fn := Bn.free
  have ln_W4 := Bn.lt
  have cp := Bp.cell
  have fp := Bp.free
  have lp_W4 := Bp.lt
  have kaW4 : Acc w W4 := by
    refine Acc.call ?_ hb
    (repeat' (first | (with_reducible first | assumption | exact Acc.refl _ | refine Acc.drew ?_ | refine Acc.drewN ?_ _ | refine Acc.alloc ?_ _ | refine Acc.setCell ?_ ?_ _) | (refine leB ?_; omega)))
  clear hb
  cases km with
  | false =>
    obtain rfl : o = none := HE.out.symm.trans (show quadO (mirrorF a1 a2 a3) (mirrorF c1 c2 c3) (mirrorF b1 b2 b3) (mirrorF d1 d2 d3) = none by rw [none_of Dm.out]; exact quad_n1 _ _ _)
    go_wp2_with fail
    refine (specFour_false m1 m2 m3 n1 n2 n3 p1 p2 p3 x1 x2 x3 _).mono ?_
    rintro e W5 ⟨rfl, hb⟩
    obtain ⟨Ba, Br, Bm, Bn, Bp, Bx⟩ : Blk W5 (w.heap.size) [.int .i64 a1, .int .i64 a2, .int .i64 a3, .int .i64 b1, .int .i64 b2, .int .i64 b3, .int .i64 c1, .int .i64 c2, .int .i64 c3, .int .i64 d1, .int .i64 d2, .int .i64 d3] ∧ Blk W5 (w.heap.size + 1) [.int .i64 0, .int .i64 0, .int .i64 0, .int .i64 0, .int .i64 0, .int .i64 0, .int .i64 0, .int .i64 0, .int .i64 0, .int .i64 0, .int .i64 0, .int .i64 0] ∧ Blk W5 (W1.heap.size) [.int .i64 m1, .int .i64 m2, .int .i64 m3] ∧ Blk W5 (W2.heap.size) [.int .i64 n1, .int .i64 n2, .int .i64 n3] ∧ Blk W5 (W3.heap.size) [.int .i64 p1, .int .i64 p2, .int .i64 p3] ∧ Blk W5 (W4.heap.size) [.int .i64 x1, .int .i64 x2, .int .i64 x3] := by
      refine ⟨?_, ?_, ?_, ?_, ?_, ?_⟩ <;> refine Blk.keep hb ?_ <;> (repeat' (first | (with_reducible first | assumption | refine Blk.drew ?_ | refine Blk.drewN ?_ _ | apply Blk.set | (refine Blk.new ?_; focus (first | rfl | (simp; done))) | refine Blk.alloc ?_ _ | refine Blk.other ?_ ?_ _) | exact eqL rfl | (refine neB ?_; omega)))
    have ca := Ba.cell
    have fa := Ba.free
    have la_W5 := Ba.lt
    have cr := Br.cell
    have fr := Br.free
    have lr_W5 := Br.lt
    have cm := Bm.cell
    have fm := Bm.free
    have lm_W5 := Bm.lt
    have cn := Bn.cell
    have fn := Bn.free
    have ln_W5 := Bn.lt
    have cp := Bp.cell
    have fp := Bp.free
    have lp_W5 := Bp.lt
    have cx := Bx.cell
    have fx := Bx.free
    have lx_W5 := Bx.lt
    have kaW5 : Acc w W5 := by
      refine Acc.call ?_ hb
      (repeat' (first | (with_reducible first | assumption | exact Acc.refl _ | refine Acc.drew ?_ | refine Acc.drewN ?_ _ | refine Acc.alloc ?_ _ | refine Acc.setCell ?_ ?_ _) | (refine leB ?_; omega)))
    clear hb
    go_wp2_with fail
    refine bodyPost_ret (v := .tuple #[.agg #[.int .i64 0, .int .i64 0, .int .i64 0, .int .i64 0, .int .i64 0, .int .i64 0, .int .i64 0, .int .i64 0, .int .i64 0, .int .i64 0, .int .i64 0, .int .i64 0], .bool false]) (by simp [results, Tryz.results107, go_sem, *]) rfl ⟨fun _ _ _ _ _ _ _ _ _ _ _ _ h => (by cases h), fun _ => rfl, ?_⟩
    show Acc w _
    (repeat' (first | (with_reducible first | assumption | exact Acc.refl _ | refine Acc.drew ?_ | refine Acc.drewN ?_ _ | refine Acc.alloc ?_ _ | refine Acc.setCell ?_ ?_ _) | (refine leB ?_; omega)))
  | true =>
    cases kn with
    | false =>
      obtain rfl : o = none := HE.out.symm.trans (show quadO (mirrorF a1 a2 a3) (mirrorF c1 c2 c3) (mirrorF b1 b2 b3) (mirrorF d1 d2 d3) = none by rw [none_of Dn.out]; exact quad_n2 _ _ _)
      go_wp2_with fail
      refine (specFour_false m1 m2 m3 n1 n2 n3 p1 p2 p3 x1 x2 x3 _).mono ?_
      rintro e W5 ⟨rfl, hb⟩
      obtain ⟨Ba, Br, Bm, Bn, Bp, Bx⟩ : Blk W5 (w.heap.size) [.int .i64 a1, .int .i64 a2, .int .i64 a3, .int .i64 b1, .int .i64 b2, .int .i64 b3, .int .i64 c1, .int .i64 c2, .int .i64 c3, .int .i64 d1, .int .i64 d2, .int .i64 d3] ∧ Blk W5 (w.heap.size + 1) [.int .i64 0, .int .i64 0, .int .i64 0, .int .i64 0, .int .i64 0, .int .i64 0, .int .i64 0, .int .i64 0, .int .i64 0, .int .i64 0, .int .i64 0, .int .i64 0] ∧ Blk W5 (W1.heap.size) [.int .i64 m1, .int .i64 m2, .int .i64 m3] ∧ Blk W5 (W2.heap.size) [.int .i64 n1, .int .i64 n2, .int .i64 n3] ∧ Blk W5 (W3.heap.size) [.int .i64 p1, .int .i64 p2, .int .i64 p3] ∧ Blk W5 (W4.heap.size) [.int .i64 x1, .int .i64 x2, .int .i64 x3] := by
        refine ⟨?_, ?_, ?_, ?_, ?_, ?_⟩ <;> refine Blk.keep hb ?_ <;> (repeat' (first | (with_reducible first | assumption | refine Blk.drew ?_ | refine Blk.drewN ?_ _ | apply Blk.set | (refine Blk.new ?_; focus (first | rfl | (simp; done))) | refine Blk.alloc ?_ _ | refine Blk.other ?_ ?_ _) | exact eqL rfl | (refine neB ?_; omega)))
      have ca := Ba.cell
      have fa := Ba.free
      have la_W5 := Ba.lt
      have cr := Br.cell
      have fr := Br.free
      have lr_W5 := Br.lt
      have cm := Bm.cell
      have fm := Bm.free
      have lm_W5 := Bm.lt
      have cn := Bn.cell
      have fn := Bn.free
      have ln_W5 := Bn.lt
      have cp := Bp.cell
      have fp := Bp.free
      have lp_W5 := Bp.lt
      have cx := Bx.cell
      have fx := Bx.free
      have lx_W5 := Bx.lt
      have kaW5 : Acc w W5 := by
        refine Acc.call ?_ hb
        (repeat' (first | (with_reducible first | assumption | exact Acc.refl _ | refine Acc.drew ?_ | refine Acc.drewN ?_ _ | refine Acc.alloc ?_ _ | refine Acc.setCell ?_ ?_ _) | (refine leB ?_; omega)))
      clear hb
      go_wp2_with fail
      refine bodyPost_ret (v := .tuple #[.agg #[.int .i64 0, .int .i64 0, .int .i64 0, .int .i64 0, .int .i64 0, .int .i64 0, .int .i64 0, .int .i64 0, .int .i64 0, .int .i64 0, .int .i64 0, .int .i64 0], .bool false]) (by simp [results, Tryz.results107, go_sem, *]) rfl ⟨fun _ _ _ _ _ _ _ _ _ _ _ _ h => (by cases h), fun _ => rfl, ?_⟩
      show Acc w _
      (repeat' (first | (with_reducible first | assumption | exact Acc.refl _ | refine Acc.drew ?_ | refine Acc.drewN ?_ _ | refine Acc.alloc ?_ _ | refine Acc.setCell ?_ ?_ _) | (refine leB ?_; omega)))
    | true =>
      cases kp with
      | false =>
        obtain rfl : o = none := HE.out.symm.trans (show quadO (mirrorF a1 a2 a3) (mirrorF c1 c2 c3) (mirrorF b1 b2 b3) (mirrorF d1 d2 d3) = none by rw [none_of Dp.out]; exact quad_n3 _ _ _)
        go_wp2_with fail
        refine (specFour_false m1 m2 m3 n1 n2 n3 p1 p2 p3 x1 x2 x3 _).mono ?_
        rintro e W5 ⟨rfl, hb⟩
        obtain ⟨Ba, Br, Bm, Bn, Bp, Bx⟩ : Blk W5 (w.heap.size) [.int .i64 a1, .int .i64 a2, .int .i64 a3, .int .i64 b1, .int .i64 b2, .int .i64 b3, .int .i64 c1, .int .i64 c2, .int .i64 c3, .int .i64 d1, .int .i64 d2, .int .i64 d3] ∧ Blk W5 (w.heap.size + 1) [.int .i64 0, .int .i64 0, .int .i64 0, .int .i64 0, .int .i64 0, .int .i64 0, .int .i64 0, .int .i64 0, .int .i64 0, .int .i64 0, .int .i64 0, .int .i64 0] ∧ Blk W5 (W1.heap.size) [.int .i64 m1, .int .i64 m2, .int .i64 m3] ∧ Blk W5 (W2.heap.size) [.int .i64 n1, .int .i64 n2, .int .i64 n3] ∧ Blk W5 (W3.heap.size) [.int .i64 p1, .int .i64 p2, .int .i64 p3] ∧ Blk W5 (W4.heap.size) [.int .i64 x1, .int .i64 x2, .int .i64 x3] := by
          refine ⟨?_, ?_, ?_, ?_, ?_, ?_⟩ <;> refine Blk.keep hb ?_ <;> (repeat' (first | (with_reducible first | assumption | refine Blk.drew ?_ | refine Blk.drewN ?_ _ | apply Blk.set | (refine Blk.new ?_; focus (first | rfl | (simp; done))) | refine Blk.alloc ?_ _ | refine Blk.other ?_ ?_ _) | exact eqL rfl | (refine neB ?_; omega)))
        have ca := Ba.cell
        have fa := Ba.free
        have la_W5 := Ba.lt
        have cr := Br.cell
        have fr := Br.free
        have lr_W5 := Br.lt
        have cm := Bm.cell
        have fm := Bm.free
        have lm_W5 := Bm.lt
        have cn := Bn.cell
        have fn := Bn.free
        have ln_W5 := Bn.lt
        have cp := Bp.cell
        have fp := Bp.free
        have lp_W5 := Bp.lt
        have cx := Bx.cell
        have fx := Bx.free
        have lx_W5 := Bx.lt
        have kaW5 : Acc w W5 := by
          refine Acc.call ?_ hb
          (repeat' (first | (with_reducible first | assumption | exact Acc.refl _ | refine Acc.drew ?_ | refine Acc.drewN ?_ _ | refine Acc.alloc ?_ _ | refine Acc.setCell ?_ ?_ _) | (refine leB ?_; omega)))
        clear hb
        go_wp2_with fail
        refine bodyPost_ret (v := .tuple #[.agg #[.int .i64 0, .int .i64 0, .int .i64 0, .int .i64 0, .int .i64 0, .int .i64 0, .int .i64 0, .int .i64 0, .int .i64 0, .int .i64 0, .int .i64 0, .int .i64 0], .bool false]) (by simp [results, Tryz.results107, go_sem, *]) rfl ⟨fun _ _ _ _ _ _ _ _ _ _ _ _ h => (by cases h), fun _ => rfl, ?_⟩
        show Acc w _
        (repeat' (first | (with_reducible first | assumption | exact Acc.refl _ | refine Acc.drew ?_ | refine Acc.drewN ?_ _ | refine Acc.alloc ?_ _ | refine Acc.setCell ?_ ?_ _) | (refine leB ?_; omega)))
      | true =>
        cases kx with
        | false =>
          obtain rfl : o = none := HE.out.symm.trans (show quadO (mirrorF a1 a2 a3) (mirrorF c1 c2 c3) (mirrorF b1 b2 b3) (mirrorF d1 d2 d3) = none by rw [none_of Dx.out]; exact quad_n4 _ _ _)
          go_wp2_with fail
          refine (specFour_false m1 m2 m3 n1 n2 n3 p1 p2 p3 x1 x2 x3 _).mono ?_
          rintro e W5 ⟨rfl, hb⟩
          obtain ⟨Ba, Br, Bm, Bn, Bp, Bx⟩ : Blk W5 (w.heap.size) [.int .i64 a1, .int .i64 a2, .int .i64 a3, .int .i64 b1, .int .i64 b2, .int .i64 b3, .int .i64 c1, .int .i64 c2, .int .i64 c3, .int .i64 d1, .int .i64 d2, .int .i64 d3] ∧ Blk W5 (w.heap.size + 1) [.int .i64 0, .int .i64 0, .int .i64 0, .int .i64 0, .int .i64 0, .int .i64 0, .int .i64 0, .int .i64 0, .int .i64 0, .int .i64 0, .int .i64 0, .int .i64 0] ∧ Blk W5 (W1.heap.size) [.int .i64 m1, .int .i64 m2, .int .i64 m3] ∧ Blk W5 (W2.heap.size) [.int .i64 n1, .int .i64 n2, .int .i64 n3] ∧ Blk W5 (W3.heap.size) [.int .i64 p1, .int .i64 p2, .int .i64 p3] ∧ Blk W5 (W4.heap.size) [.int .i64 x1, .int .i64 x2, .int .i64 x3] := by
            refine ⟨?_, ?_, ?_, ?_, ?_, ?_⟩ <;> refine Blk.keep hb ?_ <;> (repeat' (first | (with_reducible first | assumption | refine Blk.drew ?_ | refine Blk.drewN ?_ _ | apply Blk.set | (refine Blk.new ?_; focus (first | rfl | (simp; done))) | refine Blk.alloc ?_ _ | refine Blk.other ?_ ?_ _) | exact eqL rfl | (refine neB ?_; omega)))
          have ca := Ba.cell
          have fa := Ba.free
          have la_W5 := Ba.lt
          have cr := Br.cell
          have fr := Br.free
          have lr_W5 := Br.lt
          have cm := Bm.cell
          have fm := Bm.free
          have lm_W5 := Bm.lt
          have cn := Bn.cell
          have fn := Bn.free
          have ln_W5 := Bn.lt
          have cp := Bp.cell
          have fp := Bp.free
          have lp_W5 := Bp.lt
          have cx := Bx.cell
          have fx := Bx.free
          have lx_W5 := Bx.lt
          have kaW5 : Acc w W5 := by
            refine Acc.call ?_ hb
            (repeat' (first | (with_reducible first | assumption | exact Acc.refl _ | refine Acc.drew ?_ | refine Acc.drewN ?_ _ | refine Acc.alloc ?_ _ | refine Acc.setCell ?_ ?_ _) | (refine leB ?_; omega)))
          clear hb
          go_wp2_with fail
          refine bodyPost_ret (v := .tuple #[.agg #[.int .i64 0, .int .i64 0, .int .i64 0, .int .i64 0, .int .i64 0, .int .i64 0, .int .i64 0, .int .i64 0, .int .i64 0, .int .i64 0, .int .i64 0, .int .i64 0], .bool false]) (by simp [results, Tryz.results107, go_sem, *]) rfl ⟨fun _ _ _ _ _ _ _ _ _ _ _ _ h => (by cases h), fun _ => rfl, ?_⟩
          show Acc w _
          (repeat' (first | (with_reducible first | assumption | exact Acc.refl _ | refine Acc.drew ?_ | refine Acc.drewN ?_ _ | refine Acc.alloc ?_ _ | refine Acc.setCell ?_ ?_ _) | (refine leB ?_; omega)))
        | true =>
          obtain rfl : o = some ((m1, m2, m3), (n1, n2, n3), (p1, p2, p3), (x1, x2, x3)) := HE.out.symm.trans (show quadO (mirrorF a1 a2 a3) (mirrorF c1 c2 c3) (mirrorF b1 b2 b3) (mirrorF d1 d2 d3) = _ from quad_of (some_of Cm.out Dm.out) (some_of Cn.out Dn.out) (some_of Cp.out Dp.out) (some_of Cx.out Dx.out))
          go_wp2_with fail
          refine (specFour_true m1 m2 m3 n1 n2 n3 p1 p2 p3 x1 x2 x3 _).mono ?_
          rintro e W5 ⟨rfl, hb⟩
          obtain ⟨Ba, Br, Bm, Bn, Bp, Bx⟩ : Blk W5 (w.heap.size) [.int .i64 a1, .int .i64 a2, .int .i64 a3, .int .i64 b1, .int .i64 b2, .int .i64 b3, .int .i64 c1, .int .i64 c2, .int .i64 c3, .int .i64 d1, .int .i64 d2, .int .i64 d3] ∧ Blk W5 (w.heap.size + 1) [.int .i64 0, .int .i64 0, .int .i64 0, .int .i64 0, .int .i64 0, .int .i64 0, .int .i64 0, .int .i64 0, .int .i64 0, .int .i64 0, .int .i64 0, .int .i64 0] ∧ Blk W5 (W1.heap.size) [.int .i64 m1, .int .i64 m2, .int .i64 m3] ∧ Blk W5 (W2.heap.size) [.int .i64 n1, .int .i64 n2, .int .i64 n3] ∧ Blk W5 (W3.heap.size) [.int .i64 p1, .int .i64 p2, .int .i64 p3] ∧ Blk W5 (W4.heap.size) [.int .i64 x1, .int .i64 x2, .int .i64 x3] := by
            refine ⟨?_, ?_, ?_, ?_, ?_, ?_⟩ <;> refine Blk.keep hb ?_ <;> (repeat' (first | (with_reducible first | assumption | refine Blk.drew ?_ | refine Blk.drewN ?_ _ | apply Blk.set | (refine Blk.new ?_; focus (first | rfl | (simp; done))) | refine Blk.alloc ?_ _ | refine Blk.other ?_ ?_ _) | exact eqL rfl | (refine neB ?_; omega)))
          have ca := Ba.cell
          have fa := Ba.free
          have la_W5 := Ba.lt
          have cr := Br.cell
          have fr := Br.free
          have lr_W5 := Br.lt
          have cm := Bm.cell
          have fm := Bm.free
          have lm_W5 := Bm.lt
          have cn := Bn.cell
          have fn := Bn.free
          have ln_W5 := Bn.lt
          have cp := Bp.cell
          have fp := Bp.free
          have lp_W5 := Bp.lt
          have cx := Bx.cell
          have fx := Bx.free
          have lx_W5 := Bx.lt
          have kaW5 : Acc w W5 := by
            refine Acc.call ?_ hb
            (repeat' (first | (with_reducible first | assumption | exact Acc.refl _ | refine Acc.drew ?_ | refine Acc.drewN ?_ _ | refine Acc.alloc ?_ _ | refine Acc.setCell ?_ ?_ _) | (refine leB ?_; omega)))
          clear hb
          go_wp2_with fail
          refine bodyPost_ret (v := .tuple #[.agg #[.int .i64 m1, .int .i64 m2, .int .i64 m3, .int .i64 n1, .int .i64 n2, .int .i64 n3, .int .i64 p1, .int .i64 p2, .int .i64 p3, .int .i64 x1, .int .i64 x2, .int .i64 x3], .bool true]) (by simp [results, Tryz.results107, go_sem, *]) rfl ⟨fun _ _ _ _ _ _ _ _ _ _ _ _ h => (by cases h; rfl), fun h => (by cases h), ?_⟩
          show Acc w _
          (repeat' (first | (with_reducible first | assumption | exact Acc.refl _ | refine Acc.drew ?_ | refine Acc.drewN ?_ _ | refine Acc.alloc ?_ _ | refine Acc.setCell ?_ ?_ _) | (refine leB ?_; omega)))
end Go.Proofs.YtkdkeacfifjjoabGreatDoor
