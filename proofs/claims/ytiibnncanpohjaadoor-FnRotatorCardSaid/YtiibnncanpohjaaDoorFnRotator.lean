/-
  The law FnRotator.
-/
import Derived.Test.YtiibnncanpohjaaDoorBDrawM
import Derived.Test.YtiibnncanpohjaaDoorMatTS
import Derived.Test.YtiibnncanpohjaaDoorMatTI
import Derived.Test.YtiibnncanpohjaaDoorBMath
import Derived.Test.YtiibnncanpohjaaDoorImplM6
import Derived.Test.YtiibnncanpohjaaDoorMatTIL
import Derived.Test.YtiibnncanpohjaaDoorSpecM6
namespace Go.Proofs.YtiibnncanpohjaaDoor
open Go.ChangeShapes Go.WideShapes Go.ChangeAt Go.RowKit
set_option linter.unusedVariables false

set_option maxRecDepth 100000 in
set_option maxHeartbeats 16000000 in
theorem fnRotator_law (w : World) (hl : Laid w) (s : Option Addr) (len cap : Nat) (h : Code8 w s len cap) :
    Calls Tryd.prog 6 #[.slice s len cap] w (Fine w) := by
  have hm := h.2.1
  have hl' := h.1
  unfold maxLen at hm
  have HL := Lib.hid fun W (k : Acc w W) => hl.acc k
  clear hl
  by_cases hlen : 1048576 < len
  · clear h
    have hlen' : (1048576 : Int) < (len : Int) := by omega
    go_enter Tryd.func6, Tryd.ntmps6
    go_wp2_with fail
    go_ret
    exact ⟨rfl, Below.refl _ _⟩
  have hlen' : ¬ (1048576 : Int) < (len : Int) := by omega
  go_enter Tryd.func6, Tryd.ntmps6
  go_wp2_with fail
  refine (drawMatRotator_any s len cap w h).mono ?_
  rintro e W0 ⟨p, q, rfl, p0, p1, q0, q1, hb⟩
  have kaW0 : Acc w W0 := hb
  clear hb h
  have ip : i64B p := by unfold i64B; omega
  have iq : i64B q := by unfold i64B; omega
  have in' : i64B (-q) := by unfold i64B; omega
  have i1 : i64B 1 := by unfold i64B; omega
  have i0 : i64B 0 := by unfold i64B; omega
  go_wp2_with fail
  obtain ⟨o, hx⟩ : ∃ x9, valM (rotM p q) = x9 := ⟨_, rfl⟩
  obtain ⟨po, hs⟩ : ∃ s9, (rotM p q).isSome = s9 := ⟨_, rfl⟩
  have Io := valM_i64 (fun r h => (rot_ok h).2) hx
  have Co := Lib.hid hx
  have Do := Lib.hid hs
  clear hx hs
  cases po with
  | false =>
    have qo := eqMSame o
    refine (gaveM_at Co.out Do.out (implRot_any p q ip iq _ (HL.out _ (by repeat' (first | (with_reducible first | assumption | exact Acc.refl _ | refine Acc.drew ?_ | refine Acc.drewN ?_ _ | refine Acc.alloc ?_ _ | refine Acc.setCell ?_ ?_ _) | (refine leB ?_; omega)))))).mono ?_
    rintro e W1 ⟨rfl, hb⟩
    have kaW1 : Acc w W1 := by
      refine Acc.call ?_ hb
      (repeat' (first | (with_reducible first | assumption | exact Acc.refl _ | refine Acc.drew ?_ | refine Acc.drewN ?_ _ | refine Acc.alloc ?_ _ | refine Acc.setCell ?_ ?_ _) | (refine leB ?_; omega)))
    clear hb
    go_wp2_with fail
    refine (gaveM_at Co.out Do.out (specRot_any p q _)).mono ?_
    rintro e W2 ⟨rfl, hb⟩
    have Bo : Blk W2 (W1.heap.size) [.int .i64 o.1.1, .int .i64 o.1.2.1, .int .i64 o.1.2.2, .int .i64 o.2.1.1, .int .i64 o.2.1.2.1, .int .i64 o.2.1.2.2, .int .i64 o.2.2.1.1, .int .i64 o.2.2.1.2.1, .int .i64 o.2.2.1.2.2, .int .i64 o.2.2.2.1, .int .i64 o.2.2.2.2.1, .int .i64 o.2.2.2.2.2] := Blk.keep hb (by repeat' (first | (with_reducible first | assumption | refine Blk.drew ?_ | refine Blk.drewN ?_ _ | apply Blk.set | (refine Blk.new ?_; focus (first | rfl | (simp; done))) | refine Blk.alloc ?_ _ | refine Blk.other ?_ ?_ _) | exact eqL rfl | (refine neB ?_; omega)))
    have co := Bo.cell
    have fo := Bo.free
    have lo_W2 := Bo.lt
    have kaW2 : Acc w W2 := by
      refine Acc.call ?_ hb
      (repeat' (first | (with_reducible first | assumption | exact Acc.refl _ | refine Acc.drew ?_ | refine Acc.drewN ?_ _ | refine Acc.alloc ?_ _ | refine Acc.setCell ?_ ?_ _) | (refine leB ?_; omega)))
    clear hb
    go_wp2_with fail
    all_goals
      go_ret
      refine ⟨by first | rfl | (simp [*]; done) | (simp [go_sem, *]; done), ?_⟩
      show Acc w _
      (repeat' (first | (with_reducible first | assumption | exact Acc.refl _ | refine Acc.drew ?_ | refine Acc.drewN ?_ _ | refine Acc.alloc ?_ _ | refine Acc.setCell ?_ ?_ _) | (refine leB ?_; omega)))
  | true =>
    have HO := Lib.hid (someM Co.out Do.out)
    have qo := eqMSame o
    refine (gaveM_at Co.out Do.out (implRot_any p q ip iq _ (HL.out _ (by repeat' (first | (with_reducible first | assumption | exact Acc.refl _ | refine Acc.drew ?_ | refine Acc.drewN ?_ _ | refine Acc.alloc ?_ _ | refine Acc.setCell ?_ ?_ _) | (refine leB ?_; omega)))))).mono ?_
    rintro e W1 ⟨rfl, hb⟩
    have kaW1 : Acc w W1 := by
      refine Acc.call ?_ hb
      (repeat' (first | (with_reducible first | assumption | exact Acc.refl _ | refine Acc.drew ?_ | refine Acc.drewN ?_ _ | refine Acc.alloc ?_ _ | refine Acc.setCell ?_ ?_ _) | (refine leB ?_; omega)))
    clear hb
    go_wp2_with fail
    refine (gaveM_at Co.out Do.out (specRot_any p q _)).mono ?_
    rintro e W2 ⟨rfl, hb⟩
    have Bo : Blk W2 (W1.heap.size) [.int .i64 o.1.1, .int .i64 o.1.2.1, .int .i64 o.1.2.2, .int .i64 o.2.1.1, .int .i64 o.2.1.2.1, .int .i64 o.2.1.2.2, .int .i64 o.2.2.1.1, .int .i64 o.2.2.1.2.1, .int .i64 o.2.2.1.2.2, .int .i64 o.2.2.2.1, .int .i64 o.2.2.2.2.1, .int .i64 o.2.2.2.2.2] := Blk.keep hb (by repeat' (first | (with_reducible first | assumption | refine Blk.drew ?_ | refine Blk.drewN ?_ _ | apply Blk.set | (refine Blk.new ?_; focus (first | rfl | (simp; done))) | refine Blk.alloc ?_ _ | refine Blk.other ?_ ?_ _) | exact eqL rfl | (refine neB ?_; omega)))
    have co := Bo.cell
    have fo := Bo.free
    have lo_W2 := Bo.lt
    have kaW2 : Acc w W2 := by
      refine Acc.call ?_ hb
      (repeat' (first | (with_reducible first | assumption | exact Acc.refl _ | refine Acc.drew ?_ | refine Acc.drewN ?_ _ | refine Acc.alloc ?_ _ | refine Acc.setCell ?_ ?_ _) | (refine leB ?_; omega)))
    clear hb
    go_wp2_with fail
    obtain ⟨B, e1, e2, e3, e4, e5⟩ := rot_back HO.out
    rw [Int.zero_sub] at e1
    have IB := i64M_ok (rot_ok e1).2
    have H1 := Lib.hid e1
    have H3 := Lib.hid e3
    have H4 := Lib.hid e4
    have H5 := Lib.hid e5
    clear e1 e2 e3 e4 e5
    refine (gave12_some (H1.out) (implRot_any p (-q) ip in' _ (HL.out _ (by repeat' (first | (with_reducible first | assumption | exact Acc.refl _ | refine Acc.drew ?_ | refine Acc.drewN ?_ _ | refine Acc.alloc ?_ _ | refine Acc.setCell ?_ ?_ _) | (refine leB ?_; omega)))))).mono ?_
    rintro e W3 ⟨rfl, hb⟩
    have Bo : Blk W3 (W1.heap.size) [.int .i64 o.1.1, .int .i64 o.1.2.1, .int .i64 o.1.2.2, .int .i64 o.2.1.1, .int .i64 o.2.1.2.1, .int .i64 o.2.1.2.2, .int .i64 o.2.2.1.1, .int .i64 o.2.2.1.2.1, .int .i64 o.2.2.1.2.2, .int .i64 o.2.2.2.1, .int .i64 o.2.2.2.2.1, .int .i64 o.2.2.2.2.2] := Blk.keep hb (by repeat' (first | (with_reducible first | assumption | refine Blk.drew ?_ | refine Blk.drewN ?_ _ | apply Blk.set | (refine Blk.new ?_; focus (first | rfl | (simp; done))) | refine Blk.alloc ?_ _ | refine Blk.other ?_ ?_ _) | exact eqL rfl | (refine neB ?_; omega)))
    have co := Bo.cell
    have fo := Bo.free
    have lo_W3 := Bo.lt
    have kaW3 : Acc w W3 := by
      refine Acc.call ?_ hb
      (repeat' (first | (with_reducible first | assumption | exact Acc.refl _ | refine Acc.drew ?_ | refine Acc.drewN ?_ _ | refine Acc.alloc ?_ _ | refine Acc.setCell ?_ ?_ _) | (refine leB ?_; omega)))
    clear hb
    go_wp2_with fail
    refine (gave12_some (rot_one) (implRot_any 1 0 i1 i0 _ (HL.out _ (by repeat' (first | (with_reducible first | assumption | exact Acc.refl _ | refine Acc.drew ?_ | refine Acc.drewN ?_ _ | refine Acc.alloc ?_ _ | refine Acc.setCell ?_ ?_ _) | (refine leB ?_; omega)))))).mono ?_
    rintro e W4 ⟨rfl, hb⟩
    obtain ⟨Bo, Bb⟩ : Blk W4 (W1.heap.size) [.int .i64 o.1.1, .int .i64 o.1.2.1, .int .i64 o.1.2.2, .int .i64 o.2.1.1, .int .i64 o.2.1.2.1, .int .i64 o.2.1.2.2, .int .i64 o.2.2.1.1, .int .i64 o.2.2.1.2.1, .int .i64 o.2.2.1.2.2, .int .i64 o.2.2.2.1, .int .i64 o.2.2.2.2.1, .int .i64 o.2.2.2.2.2] ∧ Blk W4 (W3.heap.size) [.int .i64 B.1.1, .int .i64 B.1.2.1, .int .i64 B.1.2.2, .int .i64 B.2.1.1, .int .i64 B.2.1.2.1, .int .i64 B.2.1.2.2, .int .i64 B.2.2.1.1, .int .i64 B.2.2.1.2.1, .int .i64 B.2.2.1.2.2, .int .i64 B.2.2.2.1, .int .i64 B.2.2.2.2.1, .int .i64 B.2.2.2.2.2] := by
      refine ⟨?_, ?_⟩ <;> refine Blk.keep hb ?_ <;> (repeat' (first | (with_reducible first | assumption | refine Blk.drew ?_ | refine Blk.drewN ?_ _ | apply Blk.set | (refine Blk.new ?_; focus (first | rfl | (simp; done))) | refine Blk.alloc ?_ _ | refine Blk.other ?_ ?_ _) | exact eqL rfl | (refine neB ?_; omega)))
    have co := Bo.cell
    have fo := Bo.free
    have lo_W4 := Bo.lt
    have cb := Bb.cell
    have fb := Bb.free
    have lb_W4 := Bb.lt
    have kaW4 : Acc w W4 := by
      refine Acc.call ?_ hb
      (repeat' (first | (with_reducible first | assumption | exact Acc.refl _ | refine Acc.drew ?_ | refine Acc.drewN ?_ _ | refine Acc.alloc ?_ _ | refine Acc.setCell ?_ ?_ _) | (refine leB ?_; omega)))
    clear hb
    go_wp2_with fail
    refine (gave12_some (H3.out) (implMTimes_T o B _ Io IB (HL.out _ (by repeat' (first | (with_reducible first | assumption | exact Acc.refl _ | refine Acc.drew ?_ | refine Acc.drewN ?_ _ | refine Acc.alloc ?_ _ | refine Acc.setCell ?_ ?_ _) | (refine leB ?_; omega)))))).mono ?_
    rintro e W5 ⟨rfl, hb⟩
    obtain ⟨Bo, Bb, Bo1⟩ : Blk W5 (W1.heap.size) [.int .i64 o.1.1, .int .i64 o.1.2.1, .int .i64 o.1.2.2, .int .i64 o.2.1.1, .int .i64 o.2.1.2.1, .int .i64 o.2.1.2.2, .int .i64 o.2.2.1.1, .int .i64 o.2.2.1.2.1, .int .i64 o.2.2.1.2.2, .int .i64 o.2.2.2.1, .int .i64 o.2.2.2.2.1, .int .i64 o.2.2.2.2.2] ∧ Blk W5 (W3.heap.size) [.int .i64 B.1.1, .int .i64 B.1.2.1, .int .i64 B.1.2.2, .int .i64 B.2.1.1, .int .i64 B.2.1.2.1, .int .i64 B.2.1.2.2, .int .i64 B.2.2.1.1, .int .i64 B.2.2.1.2.1, .int .i64 B.2.2.1.2.2, .int .i64 B.2.2.2.1, .int .i64 B.2.2.2.2.1, .int .i64 B.2.2.2.2.2] ∧ Blk W5 (W4.heap.size) [.int .i64 1, .int .i64 0, .int .i64 1, .int .i64 0, .int .i64 0, .int .i64 1, .int .i64 0, .int .i64 0, .int .i64 1, .int .i64 1, .int .i64 0, .int .i64 1] := by
      refine ⟨?_, ?_, ?_⟩ <;> refine Blk.keep hb ?_ <;> (repeat' (first | (with_reducible first | assumption | refine Blk.drew ?_ | refine Blk.drewN ?_ _ | apply Blk.set | (refine Blk.new ?_; focus (first | rfl | (simp; done))) | refine Blk.alloc ?_ _ | refine Blk.other ?_ ?_ _) | exact eqL rfl | (refine neB ?_; omega)))
    have co := Bo.cell
    have fo := Bo.free
    have lo_W5 := Bo.lt
    have cb := Bb.cell
    have fb := Bb.free
    have lb_W5 := Bb.lt
    have co1 := Bo1.cell
    have fo1 := Bo1.free
    have lo1_W5 := Bo1.lt
    have kaW5 : Acc w W5 := by
      refine Acc.call ?_ hb
      (repeat' (first | (with_reducible first | assumption | exact Acc.refl _ | refine Acc.drew ?_ | refine Acc.drewN ?_ _ | refine Acc.alloc ?_ _ | refine Acc.setCell ?_ ?_ _) | (refine leB ?_; omega)))
    clear hb
    go_wp2_with fail
    refine (gave_some (H5.out) (implMDet_T o _ Io (HL.out _ (by repeat' (first | (with_reducible first | assumption | exact Acc.refl _ | refine Acc.drew ?_ | refine Acc.drewN ?_ _ | refine Acc.alloc ?_ _ | refine Acc.setCell ?_ ?_ _) | (refine leB ?_; omega)))))).mono ?_
    rintro e W6 ⟨rfl, hb⟩
    obtain ⟨Bo, Bb, Bo1, Bx⟩ : Blk W6 (W1.heap.size) [.int .i64 o.1.1, .int .i64 o.1.2.1, .int .i64 o.1.2.2, .int .i64 o.2.1.1, .int .i64 o.2.1.2.1, .int .i64 o.2.1.2.2, .int .i64 o.2.2.1.1, .int .i64 o.2.2.1.2.1, .int .i64 o.2.2.1.2.2, .int .i64 o.2.2.2.1, .int .i64 o.2.2.2.2.1, .int .i64 o.2.2.2.2.2] ∧ Blk W6 (W3.heap.size) [.int .i64 B.1.1, .int .i64 B.1.2.1, .int .i64 B.1.2.2, .int .i64 B.2.1.1, .int .i64 B.2.1.2.1, .int .i64 B.2.1.2.2, .int .i64 B.2.2.1.1, .int .i64 B.2.2.1.2.1, .int .i64 B.2.2.1.2.2, .int .i64 B.2.2.2.1, .int .i64 B.2.2.2.2.1, .int .i64 B.2.2.2.2.2] ∧ Blk W6 (W4.heap.size) [.int .i64 1, .int .i64 0, .int .i64 1, .int .i64 0, .int .i64 0, .int .i64 1, .int .i64 0, .int .i64 0, .int .i64 1, .int .i64 1, .int .i64 0, .int .i64 1] ∧ Blk W6 (W5.heap.size) [.int .i64 1, .int .i64 0, .int .i64 1, .int .i64 0, .int .i64 0, .int .i64 1, .int .i64 0, .int .i64 0, .int .i64 1, .int .i64 1, .int .i64 0, .int .i64 1] := by
      refine ⟨?_, ?_, ?_, ?_⟩ <;> refine Blk.keep hb ?_ <;> (repeat' (first | (with_reducible first | assumption | refine Blk.drew ?_ | refine Blk.drewN ?_ _ | apply Blk.set | (refine Blk.new ?_; focus (first | rfl | (simp; done))) | refine Blk.alloc ?_ _ | refine Blk.other ?_ ?_ _) | exact eqL rfl | (refine neB ?_; omega)))
    have co := Bo.cell
    have fo := Bo.free
    have lo_W6 := Bo.lt
    have cb := Bb.cell
    have fb := Bb.free
    have lb_W6 := Bb.lt
    have co1 := Bo1.cell
    have fo1 := Bo1.free
    have lo1_W6 := Bo1.lt
    have cx := Bx.cell
    have fx := Bx.free
    have lx_W6 := Bx.lt
    have kaW6 : Acc w W6 := by
      refine Acc.call ?_ hb
      (repeat' (first | (with_reducible first | assumption | exact Acc.refl _ | refine Acc.drew ?_ | refine Acc.drewN ?_ _ | refine Acc.alloc ?_ _ | refine Acc.setCell ?_ ?_ _) | (refine leB ?_; omega)))
    clear hb
    have q1 := eqMSame ((1, 0, 1), (0, 0, 1), (0, 0, 1), (1, 0, 1))
    have q2 := eqTSame (1, 0, 1)
    go_wp2_with fail
    refine (valid_at H4.out (implLos_T o _ Io (HL.out _ (by repeat' (first | (with_reducible first | assumption | exact Acc.refl _ | refine Acc.drew ?_ | refine Acc.drewN ?_ _ | refine Acc.alloc ?_ _ | refine Acc.setCell ?_ ?_ _) | (refine leB ?_; omega)))))).mono ?_
    rintro e W7 ⟨rfl, hb⟩
    obtain ⟨Bo, Bb, Bo1, Bx, Bd⟩ : Blk W7 (W1.heap.size) [.int .i64 o.1.1, .int .i64 o.1.2.1, .int .i64 o.1.2.2, .int .i64 o.2.1.1, .int .i64 o.2.1.2.1, .int .i64 o.2.1.2.2, .int .i64 o.2.2.1.1, .int .i64 o.2.2.1.2.1, .int .i64 o.2.2.1.2.2, .int .i64 o.2.2.2.1, .int .i64 o.2.2.2.2.1, .int .i64 o.2.2.2.2.2] ∧ Blk W7 (W3.heap.size) [.int .i64 B.1.1, .int .i64 B.1.2.1, .int .i64 B.1.2.2, .int .i64 B.2.1.1, .int .i64 B.2.1.2.1, .int .i64 B.2.1.2.2, .int .i64 B.2.2.1.1, .int .i64 B.2.2.1.2.1, .int .i64 B.2.2.1.2.2, .int .i64 B.2.2.2.1, .int .i64 B.2.2.2.2.1, .int .i64 B.2.2.2.2.2] ∧ Blk W7 (W4.heap.size) [.int .i64 1, .int .i64 0, .int .i64 1, .int .i64 0, .int .i64 0, .int .i64 1, .int .i64 0, .int .i64 0, .int .i64 1, .int .i64 1, .int .i64 0, .int .i64 1] ∧ Blk W7 (W5.heap.size) [.int .i64 1, .int .i64 0, .int .i64 1, .int .i64 0, .int .i64 0, .int .i64 1, .int .i64 0, .int .i64 0, .int .i64 1, .int .i64 1, .int .i64 0, .int .i64 1] ∧ Blk W7 (W6.heap.size) [.int .i64 1, .int .i64 0, .int .i64 1] := by
      refine ⟨?_, ?_, ?_, ?_, ?_⟩ <;> refine Blk.keep hb ?_ <;> (repeat' (first | (with_reducible first | assumption | refine Blk.drew ?_ | refine Blk.drewN ?_ _ | apply Blk.set | (refine Blk.new ?_; focus (first | rfl | (simp; done))) | refine Blk.alloc ?_ _ | refine Blk.other ?_ ?_ _) | exact eqL rfl | (refine neB ?_; omega)))
    have co := Bo.cell
    have fo := Bo.free
    have lo_W7 := Bo.lt
    have cb := Bb.cell
    have fb := Bb.free
    have lb_W7 := Bb.lt
    have co1 := Bo1.cell
    have fo1 := Bo1.free
    have lo1_W7 := Bo1.lt
    have cx := Bx.cell
    have fx := Bx.free
    have lx_W7 := Bx.lt
    have cd := Bd.cell
    have fd := Bd.free
    have ld_W7 := Bd.lt
    have kaW7 : Acc w W7 := by
      refine Acc.call ?_ hb
      (repeat' (first | (with_reducible first | assumption | exact Acc.refl _ | refine Acc.drew ?_ | refine Acc.drewN ?_ _ | refine Acc.alloc ?_ _ | refine Acc.setCell ?_ ?_ _) | (refine leB ?_; omega)))
    clear hb
    go_wp2_with fail
    all_goals
      go_ret
      refine ⟨by first | rfl | (simp [*]; done) | (simp [go_sem, *]; done), ?_⟩
      show Acc w _
      (repeat' (first | (with_reducible first | assumption | exact Acc.refl _ | refine Acc.drew ?_ | refine Acc.drewN ?_ _ | refine Acc.alloc ?_ _ | refine Acc.setCell ?_ ?_ _) | (refine leB ?_; omega)))
end Go.Proofs.YtiibnncanpohjaaDoor
