/-
  The law of pure light.
-/
import Derived.Test.YtchdcncnlfgjfaaGreatDoorDrawStokes2
import Derived.Test.YtchdcncnlfgjfaaGreatDoorStokesMath5
import Derived.Test.YtchdcncnlfgjfaaGreatDoorBImplF
import Derived.Test.YtchdcncnlfgjfaaGreatDoorGave6
import Derived.Test.YtchdcncnlfgjfaaGreatDoorGave12
import Derived.Test.YtchdcncnlfgjfaaGreatDoorImplE1
import Derived.Test.YtchdcncnlfgjfaaGreatDoorImplE2
import Derived.Test.YtchdcncnlfgjfaaGreatDoorImplE5
import Derived.Test.YtchdcncnlfgjfaaGreatDoorImplE6
import Derived.Test.YtchdcncnlfgjfaaGreatDoorSpecS1
namespace Go.Proofs.YtchdcncnlfgjfaaGreatDoor
open Go.ChangeShapes Go.WideShapes Go.ChangeAt Go.RowKit
set_option linter.unusedVariables false

set_option maxRecDepth 100000 in
set_option maxHeartbeats 16000000 in
theorem fnPure_law (w : World) (hl : Laid w) (s : Option Addr) (len cap : Nat) (h : Code8 w s len cap) :
    Calls Tryz.prog 3 #[.slice s len cap] w (Fine w) := by
  have hm := h.2.1
  have hl' := h.1
  unfold maxLen at hm
  have HL := Lib.hid fun W (k : Acc w W) => hl.acc k
  clear hl
  by_cases hlen : 1048576 < len
  · clear h
    have hlen' : (1048576 : Int) < (len : Int) := by omega
    go_enter Tryz.func3, Tryz.ntmps3
    go_wp2_with fail
    go_ret
    exact ⟨rfl, Below.refl _ _⟩
  have hlen' : ¬ (1048576 : Int) < (len : Int) := by omega
  go_enter Tryz.func3, Tryz.ntmps3
  go_wp2_with fail
  refine (drawStokesPure_any s len cap w h).mono ?_
  rintro e W0 ⟨a1, a2, a3, b1, b2, b3, c1, c2, c3, d1, d2, d3, rfl, ⟨ha1, ha2, ha3, hb1, hb2, hb3, hc1, hc2, hc3, hd1, hd2, hd3⟩, hb⟩
  have kaW0 : Acc w W0 := hb
  clear hb h
  go_wp2_with fail
  cases ho : pureF a1 a2 a3 b1 b2 b3 c1 c2 c3 d1 d2 d3 with
  | false =>
    have HO := Lib.hid ho
    clear ho
    refine (valid_at HO.out (implPure_any a1 a2 a3 b1 b2 b3 c1 c2 c3 d1 d2 d3 ha1 ha2 ha3 hb1 hb2 hb3 hc1 hc2 hc3 hd1 hd2 hd3 _ (HL.out _ (by repeat' (first | (with_reducible first | assumption | exact Acc.refl _ | refine Acc.alloc ?_ _ | refine Acc.setCell ?_ ?_ _) | (refine leB ?_; omega)))))).mono ?_
    rintro e W1 ⟨rfl, hb⟩
    have Ba : Blk W1 (W0.heap.size) [.int .i64 a1, .int .i64 a2, .int .i64 a3, .int .i64 b1, .int .i64 b2, .int .i64 b3, .int .i64 c1, .int .i64 c2, .int .i64 c3, .int .i64 d1, .int .i64 d2, .int .i64 d3] := Blk.keep hb (by repeat' (first | (with_reducible first | assumption | apply Blk.set | (refine Blk.new ?_; focus (first | rfl | (simp; done))) | refine Blk.alloc ?_ _ | refine Blk.other ?_ ?_ _) | exact eqL rfl | (refine neB ?_; omega)))
    have ca := Ba.cell
    have fa := Ba.free
    have la_W1 := Ba.lt
    have kaW1 : Acc w W1 := by
      refine Acc.call ?_ hb
      (repeat' (first | (with_reducible first | assumption | exact Acc.refl _ | refine Acc.alloc ?_ _ | refine Acc.setCell ?_ ?_ _) | (refine leB ?_; omega)))
    clear hb
    go_wp2_with fail
    refine (valid_at HO.out (specPure_any a1 a2 a3 b1 b2 b3 c1 c2 c3 d1 d2 d3 _)).mono ?_
    rintro e W2 ⟨rfl, hb⟩
    have Ba : Blk W2 (W0.heap.size) [.int .i64 a1, .int .i64 a2, .int .i64 a3, .int .i64 b1, .int .i64 b2, .int .i64 b3, .int .i64 c1, .int .i64 c2, .int .i64 c3, .int .i64 d1, .int .i64 d2, .int .i64 d3] := Blk.keep hb (by repeat' (first | (with_reducible first | assumption | apply Blk.set | (refine Blk.new ?_; focus (first | rfl | (simp; done))) | refine Blk.alloc ?_ _ | refine Blk.other ?_ ?_ _) | exact eqL rfl | (refine neB ?_; omega)))
    have ca := Ba.cell
    have fa := Ba.free
    have la_W2 := Ba.lt
    have kaW2 : Acc w W2 := by
      refine Acc.call ?_ hb
      (repeat' (first | (with_reducible first | assumption | exact Acc.refl _ | refine Acc.alloc ?_ _ | refine Acc.setCell ?_ ?_ _) | (refine leB ?_; omega)))
    clear hb
    go_wp2_with fail
    go_ret
    refine ⟨rfl, ?_⟩
    show Acc w _
    (repeat' (first | (with_reducible first | assumption | exact Acc.refl _ | refine Acc.alloc ?_ _ | refine Acc.setCell ?_ ?_ _) | (refine leB ?_; omega)))
  | true =>
    have HO := Lib.hid ho
    have HL5 := Lib.hid (pure_light ho)
    clear ho
    refine (valid_at HO.out (implPure_any a1 a2 a3 b1 b2 b3 c1 c2 c3 d1 d2 d3 ha1 ha2 ha3 hb1 hb2 hb3 hc1 hc2 hc3 hd1 hd2 hd3 _ (HL.out _ (by repeat' (first | (with_reducible first | assumption | exact Acc.refl _ | refine Acc.alloc ?_ _ | refine Acc.setCell ?_ ?_ _) | (refine leB ?_; omega)))))).mono ?_
    rintro e W1 ⟨rfl, hb⟩
    have Ba : Blk W1 (W0.heap.size) [.int .i64 a1, .int .i64 a2, .int .i64 a3, .int .i64 b1, .int .i64 b2, .int .i64 b3, .int .i64 c1, .int .i64 c2, .int .i64 c3, .int .i64 d1, .int .i64 d2, .int .i64 d3] := Blk.keep hb (by repeat' (first | (with_reducible first | assumption | apply Blk.set | (refine Blk.new ?_; focus (first | rfl | (simp; done))) | refine Blk.alloc ?_ _ | refine Blk.other ?_ ?_ _) | exact eqL rfl | (refine neB ?_; omega)))
    have ca := Ba.cell
    have fa := Ba.free
    have la_W1 := Ba.lt
    have kaW1 : Acc w W1 := by
      refine Acc.call ?_ hb
      (repeat' (first | (with_reducible first | assumption | exact Acc.refl _ | refine Acc.alloc ?_ _ | refine Acc.setCell ?_ ?_ _) | (refine leB ?_; omega)))
    clear hb
    go_wp2_with fail
    refine (valid_at HO.out (specPure_any a1 a2 a3 b1 b2 b3 c1 c2 c3 d1 d2 d3 _)).mono ?_
    rintro e W2 ⟨rfl, hb⟩
    have Ba : Blk W2 (W0.heap.size) [.int .i64 a1, .int .i64 a2, .int .i64 a3, .int .i64 b1, .int .i64 b2, .int .i64 b3, .int .i64 c1, .int .i64 c2, .int .i64 c3, .int .i64 d1, .int .i64 d2, .int .i64 d3] := Blk.keep hb (by repeat' (first | (with_reducible first | assumption | apply Blk.set | (refine Blk.new ?_; focus (first | rfl | (simp; done))) | refine Blk.alloc ?_ _ | refine Blk.other ?_ ?_ _) | exact eqL rfl | (refine neB ?_; omega)))
    have ca := Ba.cell
    have fa := Ba.free
    have la_W2 := Ba.lt
    have kaW2 : Acc w W2 := by
      refine Acc.call ?_ hb
      (repeat' (first | (with_reducible first | assumption | exact Acc.refl _ | refine Acc.alloc ?_ _ | refine Acc.setCell ?_ ?_ _) | (refine leB ?_; omega)))
    clear hb
    go_wp2_with fail
    cases hs : svecF a1 a2 a3 b1 b2 b3 c1 c2 c3 d1 d2 d3 with
    | none =>
     have HV := Lib.hid hs
     clear hs
     refine (gave6_none HV.out (implSVec_any a1 a2 a3 b1 b2 b3 c1 c2 c3 d1 d2 d3 ha1 ha2 ha3 hb1 hb2 hb3 hc1 hc2 hc3 hd1 hd2 hd3 _ (HL.out _ (by repeat' (first | (with_reducible first | assumption | exact Acc.refl _ | refine Acc.alloc ?_ _ | refine Acc.setCell ?_ ?_ _) | (refine leB ?_; omega)))))).mono ?_
     rintro e W3 ⟨rfl, hb⟩
     have Ba : Blk W3 (W0.heap.size) [.int .i64 a1, .int .i64 a2, .int .i64 a3, .int .i64 b1, .int .i64 b2, .int .i64 b3, .int .i64 c1, .int .i64 c2, .int .i64 c3, .int .i64 d1, .int .i64 d2, .int .i64 d3] := Blk.keep hb (by repeat' (first | (with_reducible first | assumption | apply Blk.set | (refine Blk.new ?_; focus (first | rfl | (simp; done))) | refine Blk.alloc ?_ _ | refine Blk.other ?_ ?_ _) | exact eqL rfl | (refine neB ?_; omega)))
     have ca := Ba.cell
     have fa := Ba.free
     have la_W3 := Ba.lt
     have kaW3 : Acc w W3 := by
       refine Acc.call ?_ hb
       (repeat' (first | (with_reducible first | assumption | exact Acc.refl _ | refine Acc.alloc ?_ _ | refine Acc.setCell ?_ ?_ _) | (refine leB ?_; omega)))
     clear hb
     go_wp2_with fail
     have hz : sofF 0 0 0 0 0 0 = none := by decide
     have HZ := Lib.hid hz
     clear hz
     refine (gave12_none HZ.out (implSOf_any 0 0 0 0 0 0 i64_0 i64_0 i64_0 i64_0 i64_0 i64_0 _ (HL.out _ (by repeat' (first | (with_reducible first | assumption | exact Acc.refl _ | refine Acc.alloc ?_ _ | refine Acc.setCell ?_ ?_ _) | (refine leB ?_; omega)))))).mono ?_
     rintro e W4 ⟨rfl, hb⟩
     obtain ⟨Ba, Bv⟩ : Blk W4 (W0.heap.size) [.int .i64 a1, .int .i64 a2, .int .i64 a3, .int .i64 b1, .int .i64 b2, .int .i64 b3, .int .i64 c1, .int .i64 c2, .int .i64 c3, .int .i64 d1, .int .i64 d2, .int .i64 d3] ∧ Blk W4 (W3.heap.size) [.int .i64 0, .int .i64 0, .int .i64 0, .int .i64 0, .int .i64 0, .int .i64 0] := by
       refine ⟨?_, ?_⟩ <;> refine Blk.keep hb ?_ <;> (repeat' (first | (with_reducible first | assumption | apply Blk.set | (refine Blk.new ?_; focus (first | rfl | (simp; done))) | refine Blk.alloc ?_ _ | refine Blk.other ?_ ?_ _) | exact eqL rfl | (refine neB ?_; omega)))
     have ca := Ba.cell
     have fa := Ba.free
     have la_W4 := Ba.lt
     have cv := Bv.cell
     have fv := Bv.free
     have lv_W4 := Bv.lt
     have kaW4 : Acc w W4 := by
       refine Acc.call ?_ hb
       (repeat' (first | (with_reducible first | assumption | exact Acc.refl _ | refine Acc.alloc ?_ _ | refine Acc.setCell ?_ ?_ _) | (refine leB ?_; omega)))
     clear hb
     go_wp2_with fail
     refine wp_loop_rounds 1 ?_
     rw [rounds_succ]
     go_wp2_with fail
     refine (valid_at HL5.out (implLight_any a1 a2 a3 b1 b2 b3 c1 c2 c3 d1 d2 d3 ha1 ha2 ha3 hb1 hb2 hb3 hc1 hc2 hc3 hd1 hd2 hd3 _ (HL.out _ (by repeat' (first | (with_reducible first | assumption | exact Acc.refl _ | refine Acc.alloc ?_ _ | refine Acc.setCell ?_ ?_ _) | (refine leB ?_; omega)))))).mono ?_
     rintro e W5 ⟨rfl, hb⟩
     obtain ⟨Ba, Bv, Bs⟩ : Blk W5 (W0.heap.size) [.int .i64 a1, .int .i64 a2, .int .i64 a3, .int .i64 b1, .int .i64 b2, .int .i64 b3, .int .i64 c1, .int .i64 c2, .int .i64 c3, .int .i64 d1, .int .i64 d2, .int .i64 d3] ∧ Blk W5 (W3.heap.size) [.int .i64 0, .int .i64 0, .int .i64 0, .int .i64 0, .int .i64 0, .int .i64 0] ∧ Blk W5 (W4.heap.size) [.int .i64 0, .int .i64 0, .int .i64 0, .int .i64 0, .int .i64 0, .int .i64 0, .int .i64 0, .int .i64 0, .int .i64 0, .int .i64 0, .int .i64 0, .int .i64 0] := by
       refine ⟨?_, ?_, ?_⟩ <;> refine Blk.keep hb ?_ <;> (repeat' (first | (with_reducible first | assumption | apply Blk.set | (refine Blk.new ?_; focus (first | rfl | (simp; done))) | refine Blk.alloc ?_ _ | refine Blk.other ?_ ?_ _) | exact eqL rfl | (refine neB ?_; omega)))
     have ca := Ba.cell
     have fa := Ba.free
     have la_W5 := Ba.lt
     have cv := Bv.cell
     have fv := Bv.free
     have lv_W5 := Bv.lt
     have cs := Bs.cell
     have fs := Bs.free
     have ls_W5 := Bs.lt
     have kaW5 : Acc w W5 := by
       refine Acc.call ?_ hb
       (repeat' (first | (with_reducible first | assumption | exact Acc.refl _ | refine Acc.alloc ?_ _ | refine Acc.setCell ?_ ?_ _) | (refine leB ?_; omega)))
     clear hb
     go_wp2_with fail
     all_goals
       go_ret
       refine ⟨by first | rfl | (simp [*]; done) | (simp [go_sem, *]; done), ?_⟩
       show Acc w _
       (repeat' (first | (with_reducible first | assumption | exact Acc.refl _ | refine Acc.alloc ?_ _ | refine Acc.setCell ?_ ?_ _) | (refine leB ?_; omega)))
    | some v =>
     obtain ⟨⟨x1, x2, x3⟩, y1, y2, y3⟩ := v
     obtain ⟨hx1, hx2, hx3⟩ := okF_i64 (svec_ok hs).1
     obtain ⟨hy1, hy2, hy3⟩ := okF_i64 (svec_ok hs).2
     have HV := Lib.hid hs
     clear hs
     refine (gave6_some HV.out (implSVec_any a1 a2 a3 b1 b2 b3 c1 c2 c3 d1 d2 d3 ha1 ha2 ha3 hb1 hb2 hb3 hc1 hc2 hc3 hd1 hd2 hd3 _ (HL.out _ (by repeat' (first | (with_reducible first | assumption | exact Acc.refl _ | refine Acc.alloc ?_ _ | refine Acc.setCell ?_ ?_ _) | (refine leB ?_; omega)))))).mono ?_
     rintro e W3 ⟨rfl, hb⟩
     have Ba : Blk W3 (W0.heap.size) [.int .i64 a1, .int .i64 a2, .int .i64 a3, .int .i64 b1, .int .i64 b2, .int .i64 b3, .int .i64 c1, .int .i64 c2, .int .i64 c3, .int .i64 d1, .int .i64 d2, .int .i64 d3] := Blk.keep hb (by repeat' (first | (with_reducible first | assumption | apply Blk.set | (refine Blk.new ?_; focus (first | rfl | (simp; done))) | refine Blk.alloc ?_ _ | refine Blk.other ?_ ?_ _) | exact eqL rfl | (refine neB ?_; omega)))
     have ca := Ba.cell
     have fa := Ba.free
     have la_W3 := Ba.lt
     have kaW3 : Acc w W3 := by
       refine Acc.call ?_ hb
       (repeat' (first | (with_reducible first | assumption | exact Acc.refl _ | refine Acc.alloc ?_ _ | refine Acc.setCell ?_ ?_ _) | (refine leB ?_; omega)))
     clear hb
     go_wp2_with fail
     cases hs : sofF x1 x2 x3 y1 y2 y3 with
     | none =>
      have HX := Lib.hid hs
      clear hs
      refine (gave12_none HX.out (implSOf_any x1 x2 x3 y1 y2 y3 hx1 hx2 hx3 hy1 hy2 hy3 _ (HL.out _ (by repeat' (first | (with_reducible first | assumption | exact Acc.refl _ | refine Acc.alloc ?_ _ | refine Acc.setCell ?_ ?_ _) | (refine leB ?_; omega)))))).mono ?_
      rintro e W4 ⟨rfl, hb⟩
      obtain ⟨Ba, Bv⟩ : Blk W4 (W0.heap.size) [.int .i64 a1, .int .i64 a2, .int .i64 a3, .int .i64 b1, .int .i64 b2, .int .i64 b3, .int .i64 c1, .int .i64 c2, .int .i64 c3, .int .i64 d1, .int .i64 d2, .int .i64 d3] ∧ Blk W4 (W3.heap.size) [.int .i64 x1, .int .i64 x2, .int .i64 x3, .int .i64 y1, .int .i64 y2, .int .i64 y3] := by
        refine ⟨?_, ?_⟩ <;> refine Blk.keep hb ?_ <;> (repeat' (first | (with_reducible first | assumption | apply Blk.set | (refine Blk.new ?_; focus (first | rfl | (simp; done))) | refine Blk.alloc ?_ _ | refine Blk.other ?_ ?_ _) | exact eqL rfl | (refine neB ?_; omega)))
      have ca := Ba.cell
      have fa := Ba.free
      have la_W4 := Ba.lt
      have cv := Bv.cell
      have fv := Bv.free
      have lv_W4 := Bv.lt
      have kaW4 : Acc w W4 := by
        refine Acc.call ?_ hb
        (repeat' (first | (with_reducible first | assumption | exact Acc.refl _ | refine Acc.alloc ?_ _ | refine Acc.setCell ?_ ?_ _) | (refine leB ?_; omega)))
      clear hb
      go_wp2_with fail
      refine wp_loop_rounds 1 ?_
      rw [rounds_succ]
      go_wp2_with fail
      refine (valid_at HL5.out (implLight_any a1 a2 a3 b1 b2 b3 c1 c2 c3 d1 d2 d3 ha1 ha2 ha3 hb1 hb2 hb3 hc1 hc2 hc3 hd1 hd2 hd3 _ (HL.out _ (by repeat' (first | (with_reducible first | assumption | exact Acc.refl _ | refine Acc.alloc ?_ _ | refine Acc.setCell ?_ ?_ _) | (refine leB ?_; omega)))))).mono ?_
      rintro e W5 ⟨rfl, hb⟩
      obtain ⟨Ba, Bv, Bs⟩ : Blk W5 (W0.heap.size) [.int .i64 a1, .int .i64 a2, .int .i64 a3, .int .i64 b1, .int .i64 b2, .int .i64 b3, .int .i64 c1, .int .i64 c2, .int .i64 c3, .int .i64 d1, .int .i64 d2, .int .i64 d3] ∧ Blk W5 (W3.heap.size) [.int .i64 x1, .int .i64 x2, .int .i64 x3, .int .i64 y1, .int .i64 y2, .int .i64 y3] ∧ Blk W5 (W4.heap.size) [.int .i64 0, .int .i64 0, .int .i64 0, .int .i64 0, .int .i64 0, .int .i64 0, .int .i64 0, .int .i64 0, .int .i64 0, .int .i64 0, .int .i64 0, .int .i64 0] := by
        refine ⟨?_, ?_, ?_⟩ <;> refine Blk.keep hb ?_ <;> (repeat' (first | (with_reducible first | assumption | apply Blk.set | (refine Blk.new ?_; focus (first | rfl | (simp; done))) | refine Blk.alloc ?_ _ | refine Blk.other ?_ ?_ _) | exact eqL rfl | (refine neB ?_; omega)))
      have ca := Ba.cell
      have fa := Ba.free
      have la_W5 := Ba.lt
      have cv := Bv.cell
      have fv := Bv.free
      have lv_W5 := Bv.lt
      have cs := Bs.cell
      have fs := Bs.free
      have ls_W5 := Bs.lt
      have kaW5 : Acc w W5 := by
        refine Acc.call ?_ hb
        (repeat' (first | (with_reducible first | assumption | exact Acc.refl _ | refine Acc.alloc ?_ _ | refine Acc.setCell ?_ ?_ _) | (refine leB ?_; omega)))
      clear hb
      go_wp2_with fail
      all_goals
        go_ret
        refine ⟨by first | rfl | (simp [*]; done) | (simp [go_sem, *]; done), ?_⟩
        show Acc w _
        (repeat' (first | (with_reducible first | assumption | exact Acc.refl _ | refine Acc.alloc ?_ _ | refine Acc.setCell ?_ ?_ _) | (refine leB ?_; omega)))
     | some v =>
      obtain ⟨⟨s1, s2, s3⟩, ⟨t1, t2, t3⟩, ⟨u1, u2, u3⟩, v1, v2, v3⟩ := v
      obtain ⟨hs1, hs2, hs3⟩ := okF_i64 (sof_ok hs).1
      obtain ⟨ht1, ht2, ht3⟩ := okF_i64 (sof_ok hs).2.1
      obtain ⟨hu1, hu2, hu3⟩ := okF_i64 (sof_ok hs).2.2.1
      obtain ⟨hv1, hv2, hv3⟩ := okF_i64 (sof_ok hs).2.2.2
      have HX := Lib.hid hs
      clear hs
      refine (gave12_some HX.out (implSOf_any x1 x2 x3 y1 y2 y3 hx1 hx2 hx3 hy1 hy2 hy3 _ (HL.out _ (by repeat' (first | (with_reducible first | assumption | exact Acc.refl _ | refine Acc.alloc ?_ _ | refine Acc.setCell ?_ ?_ _) | (refine leB ?_; omega)))))).mono ?_
      rintro e W4 ⟨rfl, hb⟩
      obtain ⟨Ba, Bv⟩ : Blk W4 (W0.heap.size) [.int .i64 a1, .int .i64 a2, .int .i64 a3, .int .i64 b1, .int .i64 b2, .int .i64 b3, .int .i64 c1, .int .i64 c2, .int .i64 c3, .int .i64 d1, .int .i64 d2, .int .i64 d3] ∧ Blk W4 (W3.heap.size) [.int .i64 x1, .int .i64 x2, .int .i64 x3, .int .i64 y1, .int .i64 y2, .int .i64 y3] := by
        refine ⟨?_, ?_⟩ <;> refine Blk.keep hb ?_ <;> (repeat' (first | (with_reducible first | assumption | apply Blk.set | (refine Blk.new ?_; focus (first | rfl | (simp; done))) | refine Blk.alloc ?_ _ | refine Blk.other ?_ ?_ _) | exact eqL rfl | (refine neB ?_; omega)))
      have ca := Ba.cell
      have fa := Ba.free
      have la_W4 := Ba.lt
      have cv := Bv.cell
      have fv := Bv.free
      have lv_W4 := Bv.lt
      have kaW4 : Acc w W4 := by
        refine Acc.call ?_ hb
        (repeat' (first | (with_reducible first | assumption | exact Acc.refl _ | refine Acc.alloc ?_ _ | refine Acc.setCell ?_ ?_ _) | (refine leB ?_; omega)))
      clear hb
      go_wp2_with fail
      refine wp_loop_rounds 5 ?_
      by_cases q00 : s1 < 10000
      · skip
        by_cases q01 : -10000 < s1
        · skip
          by_cases q02 : a1 < 10000
          · skip
            by_cases q03 : -10000 < a1
            · skip
              by_cases q04 : s3 < 10000
              · skip
                by_cases q05 : a3 < 10000
                · skip
                  rw [rounds_succ]
                  go_wp2_with fail
                  by_cases q10 : t1 < 10000
                  · skip
                    by_cases q11 : -10000 < t1
                    · skip
                      by_cases q12 : b1 < 10000
                      · skip
                        by_cases q13 : -10000 < b1
                        · skip
                          by_cases q14 : t3 < 10000
                          · skip
                            by_cases q15 : b3 < 10000
                            · skip
                              rw [rounds_succ]
                              go_wp2_with fail
                              by_cases q20 : u1 < 10000
                              · skip
                                by_cases q21 : -10000 < u1
                                · skip
                                  by_cases q22 : c1 < 10000
                                  · skip
                                    by_cases q23 : -10000 < c1
                                    · skip
                                      by_cases q24 : u3 < 10000
                                      · skip
                                        by_cases q25 : c3 < 10000
                                        · skip
                                          rw [rounds_succ]
                                          go_wp2_with fail
                                          by_cases q30 : v1 < 10000
                                          · skip
                                            by_cases q31 : -10000 < v1
                                            · skip
                                              by_cases q32 : d1 < 10000
                                              · skip
                                                by_cases q33 : -10000 < d1
                                                · skip
                                                  by_cases q34 : v3 < 10000
                                                  · skip
                                                    by_cases q35 : d3 < 10000
                                                    · skip
                                                      rw [rounds_succ]
                                                      go_wp2_with fail
                                                      rw [rounds_succ]
                                                      go_wp2_with fail
                                                      refine (valid_at HL5.out (implLight_any a1 a2 a3 b1 b2 b3 c1 c2 c3 d1 d2 d3 ha1 ha2 ha3 hb1 hb2 hb3 hc1 hc2 hc3 hd1 hd2 hd3 _ (HL.out _ (by repeat' (first | (with_reducible first | assumption | exact Acc.refl _ | refine Acc.alloc ?_ _ | refine Acc.setCell ?_ ?_ _) | (refine leB ?_; omega)))))).mono ?_
                                                      rintro e W5 ⟨rfl, hb⟩
                                                      obtain ⟨Ba, Bv, Bs⟩ : Blk W5 (W0.heap.size) [.int .i64 a1, .int .i64 a2, .int .i64 a3, .int .i64 b1, .int .i64 b2, .int .i64 b3, .int .i64 c1, .int .i64 c2, .int .i64 c3, .int .i64 d1, .int .i64 d2, .int .i64 d3] ∧ Blk W5 (W3.heap.size) [.int .i64 x1, .int .i64 x2, .int .i64 x3, .int .i64 y1, .int .i64 y2, .int .i64 y3] ∧ Blk W5 (W4.heap.size) [.int .i64 s1, .int .i64 s2, .int .i64 s3, .int .i64 t1, .int .i64 t2, .int .i64 t3, .int .i64 u1, .int .i64 u2, .int .i64 u3, .int .i64 v1, .int .i64 v2, .int .i64 v3] := by
                                                        refine ⟨?_, ?_, ?_⟩ <;> refine Blk.keep hb ?_ <;> (repeat' (first | (with_reducible first | assumption | apply Blk.set | (refine Blk.new ?_; focus (first | rfl | (simp; done))) | refine Blk.alloc ?_ _ | refine Blk.other ?_ ?_ _) | exact eqL rfl | (refine neB ?_; omega)))
                                                      have ca := Ba.cell
                                                      have fa := Ba.free
                                                      have la_W5 := Ba.lt
                                                      have cv := Bv.cell
                                                      have fv := Bv.free
                                                      have lv_W5 := Bv.lt
                                                      have cs := Bs.cell
                                                      have fs := Bs.free
                                                      have ls_W5 := Bs.lt
                                                      have kaW5 : Acc w W5 := by
                                                        refine Acc.call ?_ hb
                                                        (repeat' (first | (with_reducible first | assumption | exact Acc.refl _ | refine Acc.alloc ?_ _ | refine Acc.setCell ?_ ?_ _) | (refine leB ?_; omega)))
                                                      clear hb
                                                      go_wp2_with fail
                                                      have hal := pure_sof HV.out HX.out (by omega) (by omega)
                                                      have HAL := Lib.hid hal
                                                      clear hal
                                                      refine (valid_at HAL.out (implSAlike_any a1 a2 a3 b1 b2 b3 c1 c2 c3 d1 d2 d3 s1 s2 s3 t1 t2 t3 u1 u2 u3 v1 v2 v3 ha1 ha2 ha3 hb1 hb2 hb3 hc1 hc2 hc3 hd1 hd2 hd3 hs1 hs2 hs3 ht1 ht2 ht3 hu1 hu2 hu3 hv1 hv2 hv3 _ (HL.out _ (by repeat' (first | (with_reducible first | assumption | exact Acc.refl _ | refine Acc.alloc ?_ _ | refine Acc.setCell ?_ ?_ _) | (refine leB ?_; omega)))))).mono ?_
                                                      rintro e W6 ⟨rfl, hb⟩
                                                      obtain ⟨Ba, Bv, Bs⟩ : Blk W6 (W0.heap.size) [.int .i64 a1, .int .i64 a2, .int .i64 a3, .int .i64 b1, .int .i64 b2, .int .i64 b3, .int .i64 c1, .int .i64 c2, .int .i64 c3, .int .i64 d1, .int .i64 d2, .int .i64 d3] ∧ Blk W6 (W3.heap.size) [.int .i64 x1, .int .i64 x2, .int .i64 x3, .int .i64 y1, .int .i64 y2, .int .i64 y3] ∧ Blk W6 (W4.heap.size) [.int .i64 s1, .int .i64 s2, .int .i64 s3, .int .i64 t1, .int .i64 t2, .int .i64 t3, .int .i64 u1, .int .i64 u2, .int .i64 u3, .int .i64 v1, .int .i64 v2, .int .i64 v3] := by
                                                        refine ⟨?_, ?_, ?_⟩ <;> refine Blk.keep hb ?_ <;> (repeat' (first | (with_reducible first | assumption | apply Blk.set | (refine Blk.new ?_; focus (first | rfl | (simp; done))) | refine Blk.alloc ?_ _ | refine Blk.other ?_ ?_ _) | exact eqL rfl | (refine neB ?_; omega)))
                                                      have ca := Ba.cell
                                                      have fa := Ba.free
                                                      have la_W6 := Ba.lt
                                                      have cv := Bv.cell
                                                      have fv := Bv.free
                                                      have lv_W6 := Bv.lt
                                                      have cs := Bs.cell
                                                      have fs := Bs.free
                                                      have ls_W6 := Bs.lt
                                                      have kaW6 : Acc w W6 := by
                                                        refine Acc.call ?_ hb
                                                        (repeat' (first | (with_reducible first | assumption | exact Acc.refl _ | refine Acc.alloc ?_ _ | refine Acc.setCell ?_ ?_ _) | (refine leB ?_; omega)))
                                                      clear hb
                                                      go_wp2_with fail
                                                      all_goals
                                                        go_ret
                                                        refine ⟨by first | rfl | (simp [*]; done) | (simp [go_sem, *]; done), ?_⟩
                                                        show Acc w _
                                                        (repeat' (first | (with_reducible first | assumption | exact Acc.refl _ | refine Acc.alloc ?_ _ | refine Acc.setCell ?_ ?_ _) | (refine leB ?_; omega)))
                                                    · skip
                                                      rw [rounds_succ]
                                                      go_wp2_with fail
                                                      rw [rounds_succ]
                                                      go_wp2_with fail
                                                      refine (valid_at HL5.out (implLight_any a1 a2 a3 b1 b2 b3 c1 c2 c3 d1 d2 d3 ha1 ha2 ha3 hb1 hb2 hb3 hc1 hc2 hc3 hd1 hd2 hd3 _ (HL.out _ (by repeat' (first | (with_reducible first | assumption | exact Acc.refl _ | refine Acc.alloc ?_ _ | refine Acc.setCell ?_ ?_ _) | (refine leB ?_; omega)))))).mono ?_
                                                      rintro e W5 ⟨rfl, hb⟩
                                                      obtain ⟨Ba, Bv, Bs⟩ : Blk W5 (W0.heap.size) [.int .i64 a1, .int .i64 a2, .int .i64 a3, .int .i64 b1, .int .i64 b2, .int .i64 b3, .int .i64 c1, .int .i64 c2, .int .i64 c3, .int .i64 d1, .int .i64 d2, .int .i64 d3] ∧ Blk W5 (W3.heap.size) [.int .i64 x1, .int .i64 x2, .int .i64 x3, .int .i64 y1, .int .i64 y2, .int .i64 y3] ∧ Blk W5 (W4.heap.size) [.int .i64 s1, .int .i64 s2, .int .i64 s3, .int .i64 t1, .int .i64 t2, .int .i64 t3, .int .i64 u1, .int .i64 u2, .int .i64 u3, .int .i64 v1, .int .i64 v2, .int .i64 v3] := by
                                                        refine ⟨?_, ?_, ?_⟩ <;> refine Blk.keep hb ?_ <;> (repeat' (first | (with_reducible first | assumption | apply Blk.set | (refine Blk.new ?_; focus (first | rfl | (simp; done))) | refine Blk.alloc ?_ _ | refine Blk.other ?_ ?_ _) | exact eqL rfl | (refine neB ?_; omega)))
                                                      have ca := Ba.cell
                                                      have fa := Ba.free
                                                      have la_W5 := Ba.lt
                                                      have cv := Bv.cell
                                                      have fv := Bv.free
                                                      have lv_W5 := Bv.lt
                                                      have cs := Bs.cell
                                                      have fs := Bs.free
                                                      have ls_W5 := Bs.lt
                                                      have kaW5 : Acc w W5 := by
                                                        refine Acc.call ?_ hb
                                                        (repeat' (first | (with_reducible first | assumption | exact Acc.refl _ | refine Acc.alloc ?_ _ | refine Acc.setCell ?_ ?_ _) | (refine leB ?_; omega)))
                                                      clear hb
                                                      go_wp2_with fail
                                                      all_goals
                                                        go_ret
                                                        refine ⟨by first | rfl | (simp [*]; done) | (simp [go_sem, *]; done), ?_⟩
                                                        show Acc w _
                                                        (repeat' (first | (with_reducible first | assumption | exact Acc.refl _ | refine Acc.alloc ?_ _ | refine Acc.setCell ?_ ?_ _) | (refine leB ?_; omega)))
                                                  · skip
                                                    rw [rounds_succ]
                                                    go_wp2_with fail
                                                    rw [rounds_succ]
                                                    go_wp2_with fail
                                                    refine (valid_at HL5.out (implLight_any a1 a2 a3 b1 b2 b3 c1 c2 c3 d1 d2 d3 ha1 ha2 ha3 hb1 hb2 hb3 hc1 hc2 hc3 hd1 hd2 hd3 _ (HL.out _ (by repeat' (first | (with_reducible first | assumption | exact Acc.refl _ | refine Acc.alloc ?_ _ | refine Acc.setCell ?_ ?_ _) | (refine leB ?_; omega)))))).mono ?_
                                                    rintro e W5 ⟨rfl, hb⟩
                                                    obtain ⟨Ba, Bv, Bs⟩ : Blk W5 (W0.heap.size) [.int .i64 a1, .int .i64 a2, .int .i64 a3, .int .i64 b1, .int .i64 b2, .int .i64 b3, .int .i64 c1, .int .i64 c2, .int .i64 c3, .int .i64 d1, .int .i64 d2, .int .i64 d3] ∧ Blk W5 (W3.heap.size) [.int .i64 x1, .int .i64 x2, .int .i64 x3, .int .i64 y1, .int .i64 y2, .int .i64 y3] ∧ Blk W5 (W4.heap.size) [.int .i64 s1, .int .i64 s2, .int .i64 s3, .int .i64 t1, .int .i64 t2, .int .i64 t3, .int .i64 u1, .int .i64 u2, .int .i64 u3, .int .i64 v1, .int .i64 v2, .int .i64 v3] := by
                                                      refine ⟨?_, ?_, ?_⟩ <;> refine Blk.keep hb ?_ <;> (repeat' (first | (with_reducible first | assumption | apply Blk.set | (refine Blk.new ?_; focus (first | rfl | (simp; done))) | refine Blk.alloc ?_ _ | refine Blk.other ?_ ?_ _) | exact eqL rfl | (refine neB ?_; omega)))
                                                    have ca := Ba.cell
                                                    have fa := Ba.free
                                                    have la_W5 := Ba.lt
                                                    have cv := Bv.cell
                                                    have fv := Bv.free
                                                    have lv_W5 := Bv.lt
                                                    have cs := Bs.cell
                                                    have fs := Bs.free
                                                    have ls_W5 := Bs.lt
                                                    have kaW5 : Acc w W5 := by
                                                      refine Acc.call ?_ hb
                                                      (repeat' (first | (with_reducible first | assumption | exact Acc.refl _ | refine Acc.alloc ?_ _ | refine Acc.setCell ?_ ?_ _) | (refine leB ?_; omega)))
                                                    clear hb
                                                    go_wp2_with fail
                                                    all_goals
                                                      go_ret
                                                      refine ⟨by first | rfl | (simp [*]; done) | (simp [go_sem, *]; done), ?_⟩
                                                      show Acc w _
                                                      (repeat' (first | (with_reducible first | assumption | exact Acc.refl _ | refine Acc.alloc ?_ _ | refine Acc.setCell ?_ ?_ _) | (refine leB ?_; omega)))
                                                · skip
                                                  rw [rounds_succ]
                                                  go_wp2_with fail
                                                  rw [rounds_succ]
                                                  go_wp2_with fail
                                                  refine (valid_at HL5.out (implLight_any a1 a2 a3 b1 b2 b3 c1 c2 c3 d1 d2 d3 ha1 ha2 ha3 hb1 hb2 hb3 hc1 hc2 hc3 hd1 hd2 hd3 _ (HL.out _ (by repeat' (first | (with_reducible first | assumption | exact Acc.refl _ | refine Acc.alloc ?_ _ | refine Acc.setCell ?_ ?_ _) | (refine leB ?_; omega)))))).mono ?_
                                                  rintro e W5 ⟨rfl, hb⟩
                                                  obtain ⟨Ba, Bv, Bs⟩ : Blk W5 (W0.heap.size) [.int .i64 a1, .int .i64 a2, .int .i64 a3, .int .i64 b1, .int .i64 b2, .int .i64 b3, .int .i64 c1, .int .i64 c2, .int .i64 c3, .int .i64 d1, .int .i64 d2, .int .i64 d3] ∧ Blk W5 (W3.heap.size) [.int .i64 x1, .int .i64 x2, .int .i64 x3, .int .i64 y1, .int .i64 y2, .int .i64 y3] ∧ Blk W5 (W4.heap.size) [.int .i64 s1, .int .i64 s2, .int .i64 s3, .int .i64 t1, .int .i64 t2, .int .i64 t3, .int .i64 u1, .int .i64 u2, .int .i64 u3, .int .i64 v1, .int .i64 v2, .int .i64 v3] := by
                                                    refine ⟨?_, ?_, ?_⟩ <;> refine Blk.keep hb ?_ <;> (repeat' (first | (with_reducible first | assumption | apply Blk.set | (refine Blk.new ?_; focus (first | rfl | (simp; done))) | refine Blk.alloc ?_ _ | refine Blk.other ?_ ?_ _) | exact eqL rfl | (refine neB ?_; omega)))
                                                  have ca := Ba.cell
                                                  have fa := Ba.free
                                                  have la_W5 := Ba.lt
                                                  have cv := Bv.cell
                                                  have fv := Bv.free
                                                  have lv_W5 := Bv.lt
                                                  have cs := Bs.cell
                                                  have fs := Bs.free
                                                  have ls_W5 := Bs.lt
                                                  have kaW5 : Acc w W5 := by
                                                    refine Acc.call ?_ hb
                                                    (repeat' (first | (with_reducible first | assumption | exact Acc.refl _ | refine Acc.alloc ?_ _ | refine Acc.setCell ?_ ?_ _) | (refine leB ?_; omega)))
                                                  clear hb
                                                  go_wp2_with fail
                                                  all_goals
                                                    go_ret
                                                    refine ⟨by first | rfl | (simp [*]; done) | (simp [go_sem, *]; done), ?_⟩
                                                    show Acc w _
                                                    (repeat' (first | (with_reducible first | assumption | exact Acc.refl _ | refine Acc.alloc ?_ _ | refine Acc.setCell ?_ ?_ _) | (refine leB ?_; omega)))
                                              · skip
                                                rw [rounds_succ]
                                                go_wp2_with fail
                                                rw [rounds_succ]
                                                go_wp2_with fail
                                                refine (valid_at HL5.out (implLight_any a1 a2 a3 b1 b2 b3 c1 c2 c3 d1 d2 d3 ha1 ha2 ha3 hb1 hb2 hb3 hc1 hc2 hc3 hd1 hd2 hd3 _ (HL.out _ (by repeat' (first | (with_reducible first | assumption | exact Acc.refl _ | refine Acc.alloc ?_ _ | refine Acc.setCell ?_ ?_ _) | (refine leB ?_; omega)))))).mono ?_
                                                rintro e W5 ⟨rfl, hb⟩
                                                obtain ⟨Ba, Bv, Bs⟩ : Blk W5 (W0.heap.size) [.int .i64 a1, .int .i64 a2, .int .i64 a3, .int .i64 b1, .int .i64 b2, .int .i64 b3, .int .i64 c1, .int .i64 c2, .int .i64 c3, .int .i64 d1, .int .i64 d2, .int .i64 d3] ∧ Blk W5 (W3.heap.size) [.int .i64 x1, .int .i64 x2, .int .i64 x3, .int .i64 y1, .int .i64 y2, .int .i64 y3] ∧ Blk W5 (W4.heap.size) [.int .i64 s1, .int .i64 s2, .int .i64 s3, .int .i64 t1, .int .i64 t2, .int .i64 t3, .int .i64 u1, .int .i64 u2, .int .i64 u3, .int .i64 v1, .int .i64 v2, .int .i64 v3] := by
                                                  refine ⟨?_, ?_, ?_⟩ <;> refine Blk.keep hb ?_ <;> (repeat' (first | (with_reducible first | assumption | apply Blk.set | (refine Blk.new ?_; focus (first | rfl | (simp; done))) | refine Blk.alloc ?_ _ | refine Blk.other ?_ ?_ _) | exact eqL rfl | (refine neB ?_; omega)))
                                                have ca := Ba.cell
                                                have fa := Ba.free
                                                have la_W5 := Ba.lt
                                                have cv := Bv.cell
                                                have fv := Bv.free
                                                have lv_W5 := Bv.lt
                                                have cs := Bs.cell
                                                have fs := Bs.free
                                                have ls_W5 := Bs.lt
                                                have kaW5 : Acc w W5 := by
                                                  refine Acc.call ?_ hb
                                                  (repeat' (first | (with_reducible first | assumption | exact Acc.refl _ | refine Acc.alloc ?_ _ | refine Acc.setCell ?_ ?_ _) | (refine leB ?_; omega)))
                                                clear hb
                                                go_wp2_with fail
                                                all_goals
                                                  go_ret
                                                  refine ⟨by first | rfl | (simp [*]; done) | (simp [go_sem, *]; done), ?_⟩
                                                  show Acc w _
                                                  (repeat' (first | (with_reducible first | assumption | exact Acc.refl _ | refine Acc.alloc ?_ _ | refine Acc.setCell ?_ ?_ _) | (refine leB ?_; omega)))
                                            · skip
                                              rw [rounds_succ]
                                              go_wp2_with fail
                                              rw [rounds_succ]
                                              go_wp2_with fail
                                              refine (valid_at HL5.out (implLight_any a1 a2 a3 b1 b2 b3 c1 c2 c3 d1 d2 d3 ha1 ha2 ha3 hb1 hb2 hb3 hc1 hc2 hc3 hd1 hd2 hd3 _ (HL.out _ (by repeat' (first | (with_reducible first | assumption | exact Acc.refl _ | refine Acc.alloc ?_ _ | refine Acc.setCell ?_ ?_ _) | (refine leB ?_; omega)))))).mono ?_
                                              rintro e W5 ⟨rfl, hb⟩
                                              obtain ⟨Ba, Bv, Bs⟩ : Blk W5 (W0.heap.size) [.int .i64 a1, .int .i64 a2, .int .i64 a3, .int .i64 b1, .int .i64 b2, .int .i64 b3, .int .i64 c1, .int .i64 c2, .int .i64 c3, .int .i64 d1, .int .i64 d2, .int .i64 d3] ∧ Blk W5 (W3.heap.size) [.int .i64 x1, .int .i64 x2, .int .i64 x3, .int .i64 y1, .int .i64 y2, .int .i64 y3] ∧ Blk W5 (W4.heap.size) [.int .i64 s1, .int .i64 s2, .int .i64 s3, .int .i64 t1, .int .i64 t2, .int .i64 t3, .int .i64 u1, .int .i64 u2, .int .i64 u3, .int .i64 v1, .int .i64 v2, .int .i64 v3] := by
                                                refine ⟨?_, ?_, ?_⟩ <;> refine Blk.keep hb ?_ <;> (repeat' (first | (with_reducible first | assumption | apply Blk.set | (refine Blk.new ?_; focus (first | rfl | (simp; done))) | refine Blk.alloc ?_ _ | refine Blk.other ?_ ?_ _) | exact eqL rfl | (refine neB ?_; omega)))
                                              have ca := Ba.cell
                                              have fa := Ba.free
                                              have la_W5 := Ba.lt
                                              have cv := Bv.cell
                                              have fv := Bv.free
                                              have lv_W5 := Bv.lt
                                              have cs := Bs.cell
                                              have fs := Bs.free
                                              have ls_W5 := Bs.lt
                                              have kaW5 : Acc w W5 := by
                                                refine Acc.call ?_ hb
                                                (repeat' (first | (with_reducible first | assumption | exact Acc.refl _ | refine Acc.alloc ?_ _ | refine Acc.setCell ?_ ?_ _) | (refine leB ?_; omega)))
                                              clear hb
                                              go_wp2_with fail
                                              all_goals
                                                go_ret
                                                refine ⟨by first | rfl | (simp [*]; done) | (simp [go_sem, *]; done), ?_⟩
                                                show Acc w _
                                                (repeat' (first | (with_reducible first | assumption | exact Acc.refl _ | refine Acc.alloc ?_ _ | refine Acc.setCell ?_ ?_ _) | (refine leB ?_; omega)))
                                          · skip
                                            rw [rounds_succ]
                                            go_wp2_with fail
                                            rw [rounds_succ]
                                            go_wp2_with fail
                                            refine (valid_at HL5.out (implLight_any a1 a2 a3 b1 b2 b3 c1 c2 c3 d1 d2 d3 ha1 ha2 ha3 hb1 hb2 hb3 hc1 hc2 hc3 hd1 hd2 hd3 _ (HL.out _ (by repeat' (first | (with_reducible first | assumption | exact Acc.refl _ | refine Acc.alloc ?_ _ | refine Acc.setCell ?_ ?_ _) | (refine leB ?_; omega)))))).mono ?_
                                            rintro e W5 ⟨rfl, hb⟩
                                            obtain ⟨Ba, Bv, Bs⟩ : Blk W5 (W0.heap.size) [.int .i64 a1, .int .i64 a2, .int .i64 a3, .int .i64 b1, .int .i64 b2, .int .i64 b3, .int .i64 c1, .int .i64 c2, .int .i64 c3, .int .i64 d1, .int .i64 d2, .int .i64 d3] ∧ Blk W5 (W3.heap.size) [.int .i64 x1, .int .i64 x2, .int .i64 x3, .int .i64 y1, .int .i64 y2, .int .i64 y3] ∧ Blk W5 (W4.heap.size) [.int .i64 s1, .int .i64 s2, .int .i64 s3, .int .i64 t1, .int .i64 t2, .int .i64 t3, .int .i64 u1, .int .i64 u2, .int .i64 u3, .int .i64 v1, .int .i64 v2, .int .i64 v3] := by
                                              refine ⟨?_, ?_, ?_⟩ <;> refine Blk.keep hb ?_ <;> (repeat' (first | (with_reducible first | assumption | apply Blk.set | (refine Blk.new ?_; focus (first | rfl | (simp; done))) | refine Blk.alloc ?_ _ | refine Blk.other ?_ ?_ _) | exact eqL rfl | (refine neB ?_; omega)))
                                            have ca := Ba.cell
                                            have fa := Ba.free
                                            have la_W5 := Ba.lt
                                            have cv := Bv.cell
                                            have fv := Bv.free
                                            have lv_W5 := Bv.lt
                                            have cs := Bs.cell
                                            have fs := Bs.free
                                            have ls_W5 := Bs.lt
                                            have kaW5 : Acc w W5 := by
                                              refine Acc.call ?_ hb
                                              (repeat' (first | (with_reducible first | assumption | exact Acc.refl _ | refine Acc.alloc ?_ _ | refine Acc.setCell ?_ ?_ _) | (refine leB ?_; omega)))
                                            clear hb
                                            go_wp2_with fail
                                            all_goals
                                              go_ret
                                              refine ⟨by first | rfl | (simp [*]; done) | (simp [go_sem, *]; done), ?_⟩
                                              show Acc w _
                                              (repeat' (first | (with_reducible first | assumption | exact Acc.refl _ | refine Acc.alloc ?_ _ | refine Acc.setCell ?_ ?_ _) | (refine leB ?_; omega)))
                                        · skip
                                          rw [rounds_succ]
                                          go_wp2_with fail
                                          rw [rounds_succ]
                                          go_wp2_with fail
                                          rw [rounds_succ]
                                          go_wp2_with fail
                                          refine (valid_at HL5.out (implLight_any a1 a2 a3 b1 b2 b3 c1 c2 c3 d1 d2 d3 ha1 ha2 ha3 hb1 hb2 hb3 hc1 hc2 hc3 hd1 hd2 hd3 _ (HL.out _ (by repeat' (first | (with_reducible first | assumption | exact Acc.refl _ | refine Acc.alloc ?_ _ | refine Acc.setCell ?_ ?_ _) | (refine leB ?_; omega)))))).mono ?_
                                          rintro e W5 ⟨rfl, hb⟩
                                          obtain ⟨Ba, Bv, Bs⟩ : Blk W5 (W0.heap.size) [.int .i64 a1, .int .i64 a2, .int .i64 a3, .int .i64 b1, .int .i64 b2, .int .i64 b3, .int .i64 c1, .int .i64 c2, .int .i64 c3, .int .i64 d1, .int .i64 d2, .int .i64 d3] ∧ Blk W5 (W3.heap.size) [.int .i64 x1, .int .i64 x2, .int .i64 x3, .int .i64 y1, .int .i64 y2, .int .i64 y3] ∧ Blk W5 (W4.heap.size) [.int .i64 s1, .int .i64 s2, .int .i64 s3, .int .i64 t1, .int .i64 t2, .int .i64 t3, .int .i64 u1, .int .i64 u2, .int .i64 u3, .int .i64 v1, .int .i64 v2, .int .i64 v3] := by
                                            refine ⟨?_, ?_, ?_⟩ <;> refine Blk.keep hb ?_ <;> (repeat' (first | (with_reducible first | assumption | apply Blk.set | (refine Blk.new ?_; focus (first | rfl | (simp; done))) | refine Blk.alloc ?_ _ | refine Blk.other ?_ ?_ _) | exact eqL rfl | (refine neB ?_; omega)))
                                          have ca := Ba.cell
                                          have fa := Ba.free
                                          have la_W5 := Ba.lt
                                          have cv := Bv.cell
                                          have fv := Bv.free
                                          have lv_W5 := Bv.lt
                                          have cs := Bs.cell
                                          have fs := Bs.free
                                          have ls_W5 := Bs.lt
                                          have kaW5 : Acc w W5 := by
                                            refine Acc.call ?_ hb
                                            (repeat' (first | (with_reducible first | assumption | exact Acc.refl _ | refine Acc.alloc ?_ _ | refine Acc.setCell ?_ ?_ _) | (refine leB ?_; omega)))
                                          clear hb
                                          go_wp2_with fail
                                          all_goals
                                            go_ret
                                            refine ⟨by first | rfl | (simp [*]; done) | (simp [go_sem, *]; done), ?_⟩
                                            show Acc w _
                                            (repeat' (first | (with_reducible first | assumption | exact Acc.refl _ | refine Acc.alloc ?_ _ | refine Acc.setCell ?_ ?_ _) | (refine leB ?_; omega)))
                                      · skip
                                        rw [rounds_succ]
                                        go_wp2_with fail
                                        rw [rounds_succ]
                                        go_wp2_with fail
                                        rw [rounds_succ]
                                        go_wp2_with fail
                                        refine (valid_at HL5.out (implLight_any a1 a2 a3 b1 b2 b3 c1 c2 c3 d1 d2 d3 ha1 ha2 ha3 hb1 hb2 hb3 hc1 hc2 hc3 hd1 hd2 hd3 _ (HL.out _ (by repeat' (first | (with_reducible first | assumption | exact Acc.refl _ | refine Acc.alloc ?_ _ | refine Acc.setCell ?_ ?_ _) | (refine leB ?_; omega)))))).mono ?_
                                        rintro e W5 ⟨rfl, hb⟩
                                        obtain ⟨Ba, Bv, Bs⟩ : Blk W5 (W0.heap.size) [.int .i64 a1, .int .i64 a2, .int .i64 a3, .int .i64 b1, .int .i64 b2, .int .i64 b3, .int .i64 c1, .int .i64 c2, .int .i64 c3, .int .i64 d1, .int .i64 d2, .int .i64 d3] ∧ Blk W5 (W3.heap.size) [.int .i64 x1, .int .i64 x2, .int .i64 x3, .int .i64 y1, .int .i64 y2, .int .i64 y3] ∧ Blk W5 (W4.heap.size) [.int .i64 s1, .int .i64 s2, .int .i64 s3, .int .i64 t1, .int .i64 t2, .int .i64 t3, .int .i64 u1, .int .i64 u2, .int .i64 u3, .int .i64 v1, .int .i64 v2, .int .i64 v3] := by
                                          refine ⟨?_, ?_, ?_⟩ <;> refine Blk.keep hb ?_ <;> (repeat' (first | (with_reducible first | assumption | apply Blk.set | (refine Blk.new ?_; focus (first | rfl | (simp; done))) | refine Blk.alloc ?_ _ | refine Blk.other ?_ ?_ _) | exact eqL rfl | (refine neB ?_; omega)))
                                        have ca := Ba.cell
                                        have fa := Ba.free
                                        have la_W5 := Ba.lt
                                        have cv := Bv.cell
                                        have fv := Bv.free
                                        have lv_W5 := Bv.lt
                                        have cs := Bs.cell
                                        have fs := Bs.free
                                        have ls_W5 := Bs.lt
                                        have kaW5 : Acc w W5 := by
                                          refine Acc.call ?_ hb
                                          (repeat' (first | (with_reducible first | assumption | exact Acc.refl _ | refine Acc.alloc ?_ _ | refine Acc.setCell ?_ ?_ _) | (refine leB ?_; omega)))
                                        clear hb
                                        go_wp2_with fail
                                        all_goals
                                          go_ret
                                          refine ⟨by first | rfl | (simp [*]; done) | (simp [go_sem, *]; done), ?_⟩
                                          show Acc w _
                                          (repeat' (first | (with_reducible first | assumption | exact Acc.refl _ | refine Acc.alloc ?_ _ | refine Acc.setCell ?_ ?_ _) | (refine leB ?_; omega)))
                                    · skip
                                      rw [rounds_succ]
                                      go_wp2_with fail
                                      rw [rounds_succ]
                                      go_wp2_with fail
                                      rw [rounds_succ]
                                      go_wp2_with fail
                                      refine (valid_at HL5.out (implLight_any a1 a2 a3 b1 b2 b3 c1 c2 c3 d1 d2 d3 ha1 ha2 ha3 hb1 hb2 hb3 hc1 hc2 hc3 hd1 hd2 hd3 _ (HL.out _ (by repeat' (first | (with_reducible first | assumption | exact Acc.refl _ | refine Acc.alloc ?_ _ | refine Acc.setCell ?_ ?_ _) | (refine leB ?_; omega)))))).mono ?_
                                      rintro e W5 ⟨rfl, hb⟩
                                      obtain ⟨Ba, Bv, Bs⟩ : Blk W5 (W0.heap.size) [.int .i64 a1, .int .i64 a2, .int .i64 a3, .int .i64 b1, .int .i64 b2, .int .i64 b3, .int .i64 c1, .int .i64 c2, .int .i64 c3, .int .i64 d1, .int .i64 d2, .int .i64 d3] ∧ Blk W5 (W3.heap.size) [.int .i64 x1, .int .i64 x2, .int .i64 x3, .int .i64 y1, .int .i64 y2, .int .i64 y3] ∧ Blk W5 (W4.heap.size) [.int .i64 s1, .int .i64 s2, .int .i64 s3, .int .i64 t1, .int .i64 t2, .int .i64 t3, .int .i64 u1, .int .i64 u2, .int .i64 u3, .int .i64 v1, .int .i64 v2, .int .i64 v3] := by
                                        refine ⟨?_, ?_, ?_⟩ <;> refine Blk.keep hb ?_ <;> (repeat' (first | (with_reducible first | assumption | apply Blk.set | (refine Blk.new ?_; focus (first | rfl | (simp; done))) | refine Blk.alloc ?_ _ | refine Blk.other ?_ ?_ _) | exact eqL rfl | (refine neB ?_; omega)))
                                      have ca := Ba.cell
                                      have fa := Ba.free
                                      have la_W5 := Ba.lt
                                      have cv := Bv.cell
                                      have fv := Bv.free
                                      have lv_W5 := Bv.lt
                                      have cs := Bs.cell
                                      have fs := Bs.free
                                      have ls_W5 := Bs.lt
                                      have kaW5 : Acc w W5 := by
                                        refine Acc.call ?_ hb
                                        (repeat' (first | (with_reducible first | assumption | exact Acc.refl _ | refine Acc.alloc ?_ _ | refine Acc.setCell ?_ ?_ _) | (refine leB ?_; omega)))
                                      clear hb
                                      go_wp2_with fail
                                      all_goals
                                        go_ret
                                        refine ⟨by first | rfl | (simp [*]; done) | (simp [go_sem, *]; done), ?_⟩
                                        show Acc w _
                                        (repeat' (first | (with_reducible first | assumption | exact Acc.refl _ | refine Acc.alloc ?_ _ | refine Acc.setCell ?_ ?_ _) | (refine leB ?_; omega)))
                                  · skip
                                    rw [rounds_succ]
                                    go_wp2_with fail
                                    rw [rounds_succ]
                                    go_wp2_with fail
                                    rw [rounds_succ]
                                    go_wp2_with fail
                                    refine (valid_at HL5.out (implLight_any a1 a2 a3 b1 b2 b3 c1 c2 c3 d1 d2 d3 ha1 ha2 ha3 hb1 hb2 hb3 hc1 hc2 hc3 hd1 hd2 hd3 _ (HL.out _ (by repeat' (first | (with_reducible first | assumption | exact Acc.refl _ | refine Acc.alloc ?_ _ | refine Acc.setCell ?_ ?_ _) | (refine leB ?_; omega)))))).mono ?_
                                    rintro e W5 ⟨rfl, hb⟩
                                    obtain ⟨Ba, Bv, Bs⟩ : Blk W5 (W0.heap.size) [.int .i64 a1, .int .i64 a2, .int .i64 a3, .int .i64 b1, .int .i64 b2, .int .i64 b3, .int .i64 c1, .int .i64 c2, .int .i64 c3, .int .i64 d1, .int .i64 d2, .int .i64 d3] ∧ Blk W5 (W3.heap.size) [.int .i64 x1, .int .i64 x2, .int .i64 x3, .int .i64 y1, .int .i64 y2, .int .i64 y3] ∧ Blk W5 (W4.heap.size) [.int .i64 s1, .int .i64 s2, .int .i64 s3, .int .i64 t1, .int .i64 t2, .int .i64 t3, .int .i64 u1, .int .i64 u2, .int .i64 u3, .int .i64 v1, .int .i64 v2, .int .i64 v3] := by
                                      refine ⟨?_, ?_, ?_⟩ <;> refine Blk.keep hb ?_ <;> (repeat' (first | (with_reducible first | assumption | apply Blk.set | (refine Blk.new ?_; focus (first | rfl | (simp; done))) | refine Blk.alloc ?_ _ | refine Blk.other ?_ ?_ _) | exact eqL rfl | (refine neB ?_; omega)))
                                    have ca := Ba.cell
                                    have fa := Ba.free
                                    have la_W5 := Ba.lt
                                    have cv := Bv.cell
                                    have fv := Bv.free
                                    have lv_W5 := Bv.lt
                                    have cs := Bs.cell
                                    have fs := Bs.free
                                    have ls_W5 := Bs.lt
                                    have kaW5 : Acc w W5 := by
                                      refine Acc.call ?_ hb
                                      (repeat' (first | (with_reducible first | assumption | exact Acc.refl _ | refine Acc.alloc ?_ _ | refine Acc.setCell ?_ ?_ _) | (refine leB ?_; omega)))
                                    clear hb
                                    go_wp2_with fail
                                    all_goals
                                      go_ret
                                      refine ⟨by first | rfl | (simp [*]; done) | (simp [go_sem, *]; done), ?_⟩
                                      show Acc w _
                                      (repeat' (first | (with_reducible first | assumption | exact Acc.refl _ | refine Acc.alloc ?_ _ | refine Acc.setCell ?_ ?_ _) | (refine leB ?_; omega)))
                                · skip
                                  rw [rounds_succ]
                                  go_wp2_with fail
                                  rw [rounds_succ]
                                  go_wp2_with fail
                                  rw [rounds_succ]
                                  go_wp2_with fail
                                  refine (valid_at HL5.out (implLight_any a1 a2 a3 b1 b2 b3 c1 c2 c3 d1 d2 d3 ha1 ha2 ha3 hb1 hb2 hb3 hc1 hc2 hc3 hd1 hd2 hd3 _ (HL.out _ (by repeat' (first | (with_reducible first | assumption | exact Acc.refl _ | refine Acc.alloc ?_ _ | refine Acc.setCell ?_ ?_ _) | (refine leB ?_; omega)))))).mono ?_
                                  rintro e W5 ⟨rfl, hb⟩
                                  obtain ⟨Ba, Bv, Bs⟩ : Blk W5 (W0.heap.size) [.int .i64 a1, .int .i64 a2, .int .i64 a3, .int .i64 b1, .int .i64 b2, .int .i64 b3, .int .i64 c1, .int .i64 c2, .int .i64 c3, .int .i64 d1, .int .i64 d2, .int .i64 d3] ∧ Blk W5 (W3.heap.size) [.int .i64 x1, .int .i64 x2, .int .i64 x3, .int .i64 y1, .int .i64 y2, .int .i64 y3] ∧ Blk W5 (W4.heap.size) [.int .i64 s1, .int .i64 s2, .int .i64 s3, .int .i64 t1, .int .i64 t2, .int .i64 t3, .int .i64 u1, .int .i64 u2, .int .i64 u3, .int .i64 v1, .int .i64 v2, .int .i64 v3] := by
                                    refine ⟨?_, ?_, ?_⟩ <;> refine Blk.keep hb ?_ <;> (repeat' (first | (with_reducible first | assumption | apply Blk.set | (refine Blk.new ?_; focus (first | rfl | (simp; done))) | refine Blk.alloc ?_ _ | refine Blk.other ?_ ?_ _) | exact eqL rfl | (refine neB ?_; omega)))
                                  have ca := Ba.cell
                                  have fa := Ba.free
                                  have la_W5 := Ba.lt
                                  have cv := Bv.cell
                                  have fv := Bv.free
                                  have lv_W5 := Bv.lt
                                  have cs := Bs.cell
                                  have fs := Bs.free
                                  have ls_W5 := Bs.lt
                                  have kaW5 : Acc w W5 := by
                                    refine Acc.call ?_ hb
                                    (repeat' (first | (with_reducible first | assumption | exact Acc.refl _ | refine Acc.alloc ?_ _ | refine Acc.setCell ?_ ?_ _) | (refine leB ?_; omega)))
                                  clear hb
                                  go_wp2_with fail
                                  all_goals
                                    go_ret
                                    refine ⟨by first | rfl | (simp [*]; done) | (simp [go_sem, *]; done), ?_⟩
                                    show Acc w _
                                    (repeat' (first | (with_reducible first | assumption | exact Acc.refl _ | refine Acc.alloc ?_ _ | refine Acc.setCell ?_ ?_ _) | (refine leB ?_; omega)))
                              · skip
                                rw [rounds_succ]
                                go_wp2_with fail
                                rw [rounds_succ]
                                go_wp2_with fail
                                rw [rounds_succ]
                                go_wp2_with fail
                                refine (valid_at HL5.out (implLight_any a1 a2 a3 b1 b2 b3 c1 c2 c3 d1 d2 d3 ha1 ha2 ha3 hb1 hb2 hb3 hc1 hc2 hc3 hd1 hd2 hd3 _ (HL.out _ (by repeat' (first | (with_reducible first | assumption | exact Acc.refl _ | refine Acc.alloc ?_ _ | refine Acc.setCell ?_ ?_ _) | (refine leB ?_; omega)))))).mono ?_
                                rintro e W5 ⟨rfl, hb⟩
                                obtain ⟨Ba, Bv, Bs⟩ : Blk W5 (W0.heap.size) [.int .i64 a1, .int .i64 a2, .int .i64 a3, .int .i64 b1, .int .i64 b2, .int .i64 b3, .int .i64 c1, .int .i64 c2, .int .i64 c3, .int .i64 d1, .int .i64 d2, .int .i64 d3] ∧ Blk W5 (W3.heap.size) [.int .i64 x1, .int .i64 x2, .int .i64 x3, .int .i64 y1, .int .i64 y2, .int .i64 y3] ∧ Blk W5 (W4.heap.size) [.int .i64 s1, .int .i64 s2, .int .i64 s3, .int .i64 t1, .int .i64 t2, .int .i64 t3, .int .i64 u1, .int .i64 u2, .int .i64 u3, .int .i64 v1, .int .i64 v2, .int .i64 v3] := by
                                  refine ⟨?_, ?_, ?_⟩ <;> refine Blk.keep hb ?_ <;> (repeat' (first | (with_reducible first | assumption | apply Blk.set | (refine Blk.new ?_; focus (first | rfl | (simp; done))) | refine Blk.alloc ?_ _ | refine Blk.other ?_ ?_ _) | exact eqL rfl | (refine neB ?_; omega)))
                                have ca := Ba.cell
                                have fa := Ba.free
                                have la_W5 := Ba.lt
                                have cv := Bv.cell
                                have fv := Bv.free
                                have lv_W5 := Bv.lt
                                have cs := Bs.cell
                                have fs := Bs.free
                                have ls_W5 := Bs.lt
                                have kaW5 : Acc w W5 := by
                                  refine Acc.call ?_ hb
                                  (repeat' (first | (with_reducible first | assumption | exact Acc.refl _ | refine Acc.alloc ?_ _ | refine Acc.setCell ?_ ?_ _) | (refine leB ?_; omega)))
                                clear hb
                                go_wp2_with fail
                                all_goals
                                  go_ret
                                  refine ⟨by first | rfl | (simp [*]; done) | (simp [go_sem, *]; done), ?_⟩
                                  show Acc w _
                                  (repeat' (first | (with_reducible first | assumption | exact Acc.refl _ | refine Acc.alloc ?_ _ | refine Acc.setCell ?_ ?_ _) | (refine leB ?_; omega)))
                            · skip
                              rw [rounds_succ]
                              go_wp2_with fail
                              rw [rounds_succ]
                              go_wp2_with fail
                              rw [rounds_succ]
                              go_wp2_with fail
                              rw [rounds_succ]
                              go_wp2_with fail
                              refine (valid_at HL5.out (implLight_any a1 a2 a3 b1 b2 b3 c1 c2 c3 d1 d2 d3 ha1 ha2 ha3 hb1 hb2 hb3 hc1 hc2 hc3 hd1 hd2 hd3 _ (HL.out _ (by repeat' (first | (with_reducible first | assumption | exact Acc.refl _ | refine Acc.alloc ?_ _ | refine Acc.setCell ?_ ?_ _) | (refine leB ?_; omega)))))).mono ?_
                              rintro e W5 ⟨rfl, hb⟩
                              obtain ⟨Ba, Bv, Bs⟩ : Blk W5 (W0.heap.size) [.int .i64 a1, .int .i64 a2, .int .i64 a3, .int .i64 b1, .int .i64 b2, .int .i64 b3, .int .i64 c1, .int .i64 c2, .int .i64 c3, .int .i64 d1, .int .i64 d2, .int .i64 d3] ∧ Blk W5 (W3.heap.size) [.int .i64 x1, .int .i64 x2, .int .i64 x3, .int .i64 y1, .int .i64 y2, .int .i64 y3] ∧ Blk W5 (W4.heap.size) [.int .i64 s1, .int .i64 s2, .int .i64 s3, .int .i64 t1, .int .i64 t2, .int .i64 t3, .int .i64 u1, .int .i64 u2, .int .i64 u3, .int .i64 v1, .int .i64 v2, .int .i64 v3] := by
                                refine ⟨?_, ?_, ?_⟩ <;> refine Blk.keep hb ?_ <;> (repeat' (first | (with_reducible first | assumption | apply Blk.set | (refine Blk.new ?_; focus (first | rfl | (simp; done))) | refine Blk.alloc ?_ _ | refine Blk.other ?_ ?_ _) | exact eqL rfl | (refine neB ?_; omega)))
                              have ca := Ba.cell
                              have fa := Ba.free
                              have la_W5 := Ba.lt
                              have cv := Bv.cell
                              have fv := Bv.free
                              have lv_W5 := Bv.lt
                              have cs := Bs.cell
                              have fs := Bs.free
                              have ls_W5 := Bs.lt
                              have kaW5 : Acc w W5 := by
                                refine Acc.call ?_ hb
                                (repeat' (first | (with_reducible first | assumption | exact Acc.refl _ | refine Acc.alloc ?_ _ | refine Acc.setCell ?_ ?_ _) | (refine leB ?_; omega)))
                              clear hb
                              go_wp2_with fail
                              all_goals
                                go_ret
                                refine ⟨by first | rfl | (simp [*]; done) | (simp [go_sem, *]; done), ?_⟩
                                show Acc w _
                                (repeat' (first | (with_reducible first | assumption | exact Acc.refl _ | refine Acc.alloc ?_ _ | refine Acc.setCell ?_ ?_ _) | (refine leB ?_; omega)))
                          · skip
                            rw [rounds_succ]
                            go_wp2_with fail
                            rw [rounds_succ]
                            go_wp2_with fail
                            rw [rounds_succ]
                            go_wp2_with fail
                            rw [rounds_succ]
                            go_wp2_with fail
                            refine (valid_at HL5.out (implLight_any a1 a2 a3 b1 b2 b3 c1 c2 c3 d1 d2 d3 ha1 ha2 ha3 hb1 hb2 hb3 hc1 hc2 hc3 hd1 hd2 hd3 _ (HL.out _ (by repeat' (first | (with_reducible first | assumption | exact Acc.refl _ | refine Acc.alloc ?_ _ | refine Acc.setCell ?_ ?_ _) | (refine leB ?_; omega)))))).mono ?_
                            rintro e W5 ⟨rfl, hb⟩
                            obtain ⟨Ba, Bv, Bs⟩ : Blk W5 (W0.heap.size) [.int .i64 a1, .int .i64 a2, .int .i64 a3, .int .i64 b1, .int .i64 b2, .int .i64 b3, .int .i64 c1, .int .i64 c2, .int .i64 c3, .int .i64 d1, .int .i64 d2, .int .i64 d3] ∧ Blk W5 (W3.heap.size) [.int .i64 x1, .int .i64 x2, .int .i64 x3, .int .i64 y1, .int .i64 y2, .int .i64 y3] ∧ Blk W5 (W4.heap.size) [.int .i64 s1, .int .i64 s2, .int .i64 s3, .int .i64 t1, .int .i64 t2, .int .i64 t3, .int .i64 u1, .int .i64 u2, .int .i64 u3, .int .i64 v1, .int .i64 v2, .int .i64 v3] := by
                              refine ⟨?_, ?_, ?_⟩ <;> refine Blk.keep hb ?_ <;> (repeat' (first | (with_reducible first | assumption | apply Blk.set | (refine Blk.new ?_; focus (first | rfl | (simp; done))) | refine Blk.alloc ?_ _ | refine Blk.other ?_ ?_ _) | exact eqL rfl | (refine neB ?_; omega)))
                            have ca := Ba.cell
                            have fa := Ba.free
                            have la_W5 := Ba.lt
                            have cv := Bv.cell
                            have fv := Bv.free
                            have lv_W5 := Bv.lt
                            have cs := Bs.cell
                            have fs := Bs.free
                            have ls_W5 := Bs.lt
                            have kaW5 : Acc w W5 := by
                              refine Acc.call ?_ hb
                              (repeat' (first | (with_reducible first | assumption | exact Acc.refl _ | refine Acc.alloc ?_ _ | refine Acc.setCell ?_ ?_ _) | (refine leB ?_; omega)))
                            clear hb
                            go_wp2_with fail
                            all_goals
                              go_ret
                              refine ⟨by first | rfl | (simp [*]; done) | (simp [go_sem, *]; done), ?_⟩
                              show Acc w _
                              (repeat' (first | (with_reducible first | assumption | exact Acc.refl _ | refine Acc.alloc ?_ _ | refine Acc.setCell ?_ ?_ _) | (refine leB ?_; omega)))
                        · skip
                          rw [rounds_succ]
                          go_wp2_with fail
                          rw [rounds_succ]
                          go_wp2_with fail
                          rw [rounds_succ]
                          go_wp2_with fail
                          rw [rounds_succ]
                          go_wp2_with fail
                          refine (valid_at HL5.out (implLight_any a1 a2 a3 b1 b2 b3 c1 c2 c3 d1 d2 d3 ha1 ha2 ha3 hb1 hb2 hb3 hc1 hc2 hc3 hd1 hd2 hd3 _ (HL.out _ (by repeat' (first | (with_reducible first | assumption | exact Acc.refl _ | refine Acc.alloc ?_ _ | refine Acc.setCell ?_ ?_ _) | (refine leB ?_; omega)))))).mono ?_
                          rintro e W5 ⟨rfl, hb⟩
                          obtain ⟨Ba, Bv, Bs⟩ : Blk W5 (W0.heap.size) [.int .i64 a1, .int .i64 a2, .int .i64 a3, .int .i64 b1, .int .i64 b2, .int .i64 b3, .int .i64 c1, .int .i64 c2, .int .i64 c3, .int .i64 d1, .int .i64 d2, .int .i64 d3] ∧ Blk W5 (W3.heap.size) [.int .i64 x1, .int .i64 x2, .int .i64 x3, .int .i64 y1, .int .i64 y2, .int .i64 y3] ∧ Blk W5 (W4.heap.size) [.int .i64 s1, .int .i64 s2, .int .i64 s3, .int .i64 t1, .int .i64 t2, .int .i64 t3, .int .i64 u1, .int .i64 u2, .int .i64 u3, .int .i64 v1, .int .i64 v2, .int .i64 v3] := by
                            refine ⟨?_, ?_, ?_⟩ <;> refine Blk.keep hb ?_ <;> (repeat' (first | (with_reducible first | assumption | apply Blk.set | (refine Blk.new ?_; focus (first | rfl | (simp; done))) | refine Blk.alloc ?_ _ | refine Blk.other ?_ ?_ _) | exact eqL rfl | (refine neB ?_; omega)))
                          have ca := Ba.cell
                          have fa := Ba.free
                          have la_W5 := Ba.lt
                          have cv := Bv.cell
                          have fv := Bv.free
                          have lv_W5 := Bv.lt
                          have cs := Bs.cell
                          have fs := Bs.free
                          have ls_W5 := Bs.lt
                          have kaW5 : Acc w W5 := by
                            refine Acc.call ?_ hb
                            (repeat' (first | (with_reducible first | assumption | exact Acc.refl _ | refine Acc.alloc ?_ _ | refine Acc.setCell ?_ ?_ _) | (refine leB ?_; omega)))
                          clear hb
                          go_wp2_with fail
                          all_goals
                            go_ret
                            refine ⟨by first | rfl | (simp [*]; done) | (simp [go_sem, *]; done), ?_⟩
                            show Acc w _
                            (repeat' (first | (with_reducible first | assumption | exact Acc.refl _ | refine Acc.alloc ?_ _ | refine Acc.setCell ?_ ?_ _) | (refine leB ?_; omega)))
                      · skip
                        rw [rounds_succ]
                        go_wp2_with fail
                        rw [rounds_succ]
                        go_wp2_with fail
                        rw [rounds_succ]
                        go_wp2_with fail
                        rw [rounds_succ]
                        go_wp2_with fail
                        refine (valid_at HL5.out (implLight_any a1 a2 a3 b1 b2 b3 c1 c2 c3 d1 d2 d3 ha1 ha2 ha3 hb1 hb2 hb3 hc1 hc2 hc3 hd1 hd2 hd3 _ (HL.out _ (by repeat' (first | (with_reducible first | assumption | exact Acc.refl _ | refine Acc.alloc ?_ _ | refine Acc.setCell ?_ ?_ _) | (refine leB ?_; omega)))))).mono ?_
                        rintro e W5 ⟨rfl, hb⟩
                        obtain ⟨Ba, Bv, Bs⟩ : Blk W5 (W0.heap.size) [.int .i64 a1, .int .i64 a2, .int .i64 a3, .int .i64 b1, .int .i64 b2, .int .i64 b3, .int .i64 c1, .int .i64 c2, .int .i64 c3, .int .i64 d1, .int .i64 d2, .int .i64 d3] ∧ Blk W5 (W3.heap.size) [.int .i64 x1, .int .i64 x2, .int .i64 x3, .int .i64 y1, .int .i64 y2, .int .i64 y3] ∧ Blk W5 (W4.heap.size) [.int .i64 s1, .int .i64 s2, .int .i64 s3, .int .i64 t1, .int .i64 t2, .int .i64 t3, .int .i64 u1, .int .i64 u2, .int .i64 u3, .int .i64 v1, .int .i64 v2, .int .i64 v3] := by
                          refine ⟨?_, ?_, ?_⟩ <;> refine Blk.keep hb ?_ <;> (repeat' (first | (with_reducible first | assumption | apply Blk.set | (refine Blk.new ?_; focus (first | rfl | (simp; done))) | refine Blk.alloc ?_ _ | refine Blk.other ?_ ?_ _) | exact eqL rfl | (refine neB ?_; omega)))
                        have ca := Ba.cell
                        have fa := Ba.free
                        have la_W5 := Ba.lt
                        have cv := Bv.cell
                        have fv := Bv.free
                        have lv_W5 := Bv.lt
                        have cs := Bs.cell
                        have fs := Bs.free
                        have ls_W5 := Bs.lt
                        have kaW5 : Acc w W5 := by
                          refine Acc.call ?_ hb
                          (repeat' (first | (with_reducible first | assumption | exact Acc.refl _ | refine Acc.alloc ?_ _ | refine Acc.setCell ?_ ?_ _) | (refine leB ?_; omega)))
                        clear hb
                        go_wp2_with fail
                        all_goals
                          go_ret
                          refine ⟨by first | rfl | (simp [*]; done) | (simp [go_sem, *]; done), ?_⟩
                          show Acc w _
                          (repeat' (first | (with_reducible first | assumption | exact Acc.refl _ | refine Acc.alloc ?_ _ | refine Acc.setCell ?_ ?_ _) | (refine leB ?_; omega)))
                    · skip
                      rw [rounds_succ]
                      go_wp2_with fail
                      rw [rounds_succ]
                      go_wp2_with fail
                      rw [rounds_succ]
                      go_wp2_with fail
                      rw [rounds_succ]
                      go_wp2_with fail
                      refine (valid_at HL5.out (implLight_any a1 a2 a3 b1 b2 b3 c1 c2 c3 d1 d2 d3 ha1 ha2 ha3 hb1 hb2 hb3 hc1 hc2 hc3 hd1 hd2 hd3 _ (HL.out _ (by repeat' (first | (with_reducible first | assumption | exact Acc.refl _ | refine Acc.alloc ?_ _ | refine Acc.setCell ?_ ?_ _) | (refine leB ?_; omega)))))).mono ?_
                      rintro e W5 ⟨rfl, hb⟩
                      obtain ⟨Ba, Bv, Bs⟩ : Blk W5 (W0.heap.size) [.int .i64 a1, .int .i64 a2, .int .i64 a3, .int .i64 b1, .int .i64 b2, .int .i64 b3, .int .i64 c1, .int .i64 c2, .int .i64 c3, .int .i64 d1, .int .i64 d2, .int .i64 d3] ∧ Blk W5 (W3.heap.size) [.int .i64 x1, .int .i64 x2, .int .i64 x3, .int .i64 y1, .int .i64 y2, .int .i64 y3] ∧ Blk W5 (W4.heap.size) [.int .i64 s1, .int .i64 s2, .int .i64 s3, .int .i64 t1, .int .i64 t2, .int .i64 t3, .int .i64 u1, .int .i64 u2, .int .i64 u3, .int .i64 v1, .int .i64 v2, .int .i64 v3] := by
                        refine ⟨?_, ?_, ?_⟩ <;> refine Blk.keep hb ?_ <;> (repeat' (first | (with_reducible first | assumption | apply Blk.set | (refine Blk.new ?_; focus (first | rfl | (simp; done))) | refine Blk.alloc ?_ _ | refine Blk.other ?_ ?_ _) | exact eqL rfl | (refine neB ?_; omega)))
                      have ca := Ba.cell
                      have fa := Ba.free
                      have la_W5 := Ba.lt
                      have cv := Bv.cell
                      have fv := Bv.free
                      have lv_W5 := Bv.lt
                      have cs := Bs.cell
                      have fs := Bs.free
                      have ls_W5 := Bs.lt
                      have kaW5 : Acc w W5 := by
                        refine Acc.call ?_ hb
                        (repeat' (first | (with_reducible first | assumption | exact Acc.refl _ | refine Acc.alloc ?_ _ | refine Acc.setCell ?_ ?_ _) | (refine leB ?_; omega)))
                      clear hb
                      go_wp2_with fail
                      all_goals
                        go_ret
                        refine ⟨by first | rfl | (simp [*]; done) | (simp [go_sem, *]; done), ?_⟩
                        show Acc w _
                        (repeat' (first | (with_reducible first | assumption | exact Acc.refl _ | refine Acc.alloc ?_ _ | refine Acc.setCell ?_ ?_ _) | (refine leB ?_; omega)))
                  · skip
                    rw [rounds_succ]
                    go_wp2_with fail
                    rw [rounds_succ]
                    go_wp2_with fail
                    rw [rounds_succ]
                    go_wp2_with fail
                    rw [rounds_succ]
                    go_wp2_with fail
                    refine (valid_at HL5.out (implLight_any a1 a2 a3 b1 b2 b3 c1 c2 c3 d1 d2 d3 ha1 ha2 ha3 hb1 hb2 hb3 hc1 hc2 hc3 hd1 hd2 hd3 _ (HL.out _ (by repeat' (first | (with_reducible first | assumption | exact Acc.refl _ | refine Acc.alloc ?_ _ | refine Acc.setCell ?_ ?_ _) | (refine leB ?_; omega)))))).mono ?_
                    rintro e W5 ⟨rfl, hb⟩
                    obtain ⟨Ba, Bv, Bs⟩ : Blk W5 (W0.heap.size) [.int .i64 a1, .int .i64 a2, .int .i64 a3, .int .i64 b1, .int .i64 b2, .int .i64 b3, .int .i64 c1, .int .i64 c2, .int .i64 c3, .int .i64 d1, .int .i64 d2, .int .i64 d3] ∧ Blk W5 (W3.heap.size) [.int .i64 x1, .int .i64 x2, .int .i64 x3, .int .i64 y1, .int .i64 y2, .int .i64 y3] ∧ Blk W5 (W4.heap.size) [.int .i64 s1, .int .i64 s2, .int .i64 s3, .int .i64 t1, .int .i64 t2, .int .i64 t3, .int .i64 u1, .int .i64 u2, .int .i64 u3, .int .i64 v1, .int .i64 v2, .int .i64 v3] := by
                      refine ⟨?_, ?_, ?_⟩ <;> refine Blk.keep hb ?_ <;> (repeat' (first | (with_reducible first | assumption | apply Blk.set | (refine Blk.new ?_; focus (first | rfl | (simp; done))) | refine Blk.alloc ?_ _ | refine Blk.other ?_ ?_ _) | exact eqL rfl | (refine neB ?_; omega)))
                    have ca := Ba.cell
                    have fa := Ba.free
                    have la_W5 := Ba.lt
                    have cv := Bv.cell
                    have fv := Bv.free
                    have lv_W5 := Bv.lt
                    have cs := Bs.cell
                    have fs := Bs.free
                    have ls_W5 := Bs.lt
                    have kaW5 : Acc w W5 := by
                      refine Acc.call ?_ hb
                      (repeat' (first | (with_reducible first | assumption | exact Acc.refl _ | refine Acc.alloc ?_ _ | refine Acc.setCell ?_ ?_ _) | (refine leB ?_; omega)))
                    clear hb
                    go_wp2_with fail
                    all_goals
                      go_ret
                      refine ⟨by first | rfl | (simp [*]; done) | (simp [go_sem, *]; done), ?_⟩
                      show Acc w _
                      (repeat' (first | (with_reducible first | assumption | exact Acc.refl _ | refine Acc.alloc ?_ _ | refine Acc.setCell ?_ ?_ _) | (refine leB ?_; omega)))
                · skip
                  rw [rounds_succ]
                  go_wp2_with fail
                  rw [rounds_succ]
                  go_wp2_with fail
                  rw [rounds_succ]
                  go_wp2_with fail
                  rw [rounds_succ]
                  go_wp2_with fail
                  rw [rounds_succ]
                  go_wp2_with fail
                  refine (valid_at HL5.out (implLight_any a1 a2 a3 b1 b2 b3 c1 c2 c3 d1 d2 d3 ha1 ha2 ha3 hb1 hb2 hb3 hc1 hc2 hc3 hd1 hd2 hd3 _ (HL.out _ (by repeat' (first | (with_reducible first | assumption | exact Acc.refl _ | refine Acc.alloc ?_ _ | refine Acc.setCell ?_ ?_ _) | (refine leB ?_; omega)))))).mono ?_
                  rintro e W5 ⟨rfl, hb⟩
                  obtain ⟨Ba, Bv, Bs⟩ : Blk W5 (W0.heap.size) [.int .i64 a1, .int .i64 a2, .int .i64 a3, .int .i64 b1, .int .i64 b2, .int .i64 b3, .int .i64 c1, .int .i64 c2, .int .i64 c3, .int .i64 d1, .int .i64 d2, .int .i64 d3] ∧ Blk W5 (W3.heap.size) [.int .i64 x1, .int .i64 x2, .int .i64 x3, .int .i64 y1, .int .i64 y2, .int .i64 y3] ∧ Blk W5 (W4.heap.size) [.int .i64 s1, .int .i64 s2, .int .i64 s3, .int .i64 t1, .int .i64 t2, .int .i64 t3, .int .i64 u1, .int .i64 u2, .int .i64 u3, .int .i64 v1, .int .i64 v2, .int .i64 v3] := by
                    refine ⟨?_, ?_, ?_⟩ <;> refine Blk.keep hb ?_ <;> (repeat' (first | (with_reducible first | assumption | apply Blk.set | (refine Blk.new ?_; focus (first | rfl | (simp; done))) | refine Blk.alloc ?_ _ | refine Blk.other ?_ ?_ _) | exact eqL rfl | (refine neB ?_; omega)))
                  have ca := Ba.cell
                  have fa := Ba.free
                  have la_W5 := Ba.lt
                  have cv := Bv.cell
                  have fv := Bv.free
                  have lv_W5 := Bv.lt
                  have cs := Bs.cell
                  have fs := Bs.free
                  have ls_W5 := Bs.lt
                  have kaW5 : Acc w W5 := by
                    refine Acc.call ?_ hb
                    (repeat' (first | (with_reducible first | assumption | exact Acc.refl _ | refine Acc.alloc ?_ _ | refine Acc.setCell ?_ ?_ _) | (refine leB ?_; omega)))
                  clear hb
                  go_wp2_with fail
                  all_goals
                    go_ret
                    refine ⟨by first | rfl | (simp [*]; done) | (simp [go_sem, *]; done), ?_⟩
                    show Acc w _
                    (repeat' (first | (with_reducible first | assumption | exact Acc.refl _ | refine Acc.alloc ?_ _ | refine Acc.setCell ?_ ?_ _) | (refine leB ?_; omega)))
              · skip
                rw [rounds_succ]
                go_wp2_with fail
                rw [rounds_succ]
                go_wp2_with fail
                rw [rounds_succ]
                go_wp2_with fail
                rw [rounds_succ]
                go_wp2_with fail
                rw [rounds_succ]
                go_wp2_with fail
                refine (valid_at HL5.out (implLight_any a1 a2 a3 b1 b2 b3 c1 c2 c3 d1 d2 d3 ha1 ha2 ha3 hb1 hb2 hb3 hc1 hc2 hc3 hd1 hd2 hd3 _ (HL.out _ (by repeat' (first | (with_reducible first | assumption | exact Acc.refl _ | refine Acc.alloc ?_ _ | refine Acc.setCell ?_ ?_ _) | (refine leB ?_; omega)))))).mono ?_
                rintro e W5 ⟨rfl, hb⟩
                obtain ⟨Ba, Bv, Bs⟩ : Blk W5 (W0.heap.size) [.int .i64 a1, .int .i64 a2, .int .i64 a3, .int .i64 b1, .int .i64 b2, .int .i64 b3, .int .i64 c1, .int .i64 c2, .int .i64 c3, .int .i64 d1, .int .i64 d2, .int .i64 d3] ∧ Blk W5 (W3.heap.size) [.int .i64 x1, .int .i64 x2, .int .i64 x3, .int .i64 y1, .int .i64 y2, .int .i64 y3] ∧ Blk W5 (W4.heap.size) [.int .i64 s1, .int .i64 s2, .int .i64 s3, .int .i64 t1, .int .i64 t2, .int .i64 t3, .int .i64 u1, .int .i64 u2, .int .i64 u3, .int .i64 v1, .int .i64 v2, .int .i64 v3] := by
                  refine ⟨?_, ?_, ?_⟩ <;> refine Blk.keep hb ?_ <;> (repeat' (first | (with_reducible first | assumption | apply Blk.set | (refine Blk.new ?_; focus (first | rfl | (simp; done))) | refine Blk.alloc ?_ _ | refine Blk.other ?_ ?_ _) | exact eqL rfl | (refine neB ?_; omega)))
                have ca := Ba.cell
                have fa := Ba.free
                have la_W5 := Ba.lt
                have cv := Bv.cell
                have fv := Bv.free
                have lv_W5 := Bv.lt
                have cs := Bs.cell
                have fs := Bs.free
                have ls_W5 := Bs.lt
                have kaW5 : Acc w W5 := by
                  refine Acc.call ?_ hb
                  (repeat' (first | (with_reducible first | assumption | exact Acc.refl _ | refine Acc.alloc ?_ _ | refine Acc.setCell ?_ ?_ _) | (refine leB ?_; omega)))
                clear hb
                go_wp2_with fail
                all_goals
                  go_ret
                  refine ⟨by first | rfl | (simp [*]; done) | (simp [go_sem, *]; done), ?_⟩
                  show Acc w _
                  (repeat' (first | (with_reducible first | assumption | exact Acc.refl _ | refine Acc.alloc ?_ _ | refine Acc.setCell ?_ ?_ _) | (refine leB ?_; omega)))
            · skip
              rw [rounds_succ]
              go_wp2_with fail
              rw [rounds_succ]
              go_wp2_with fail
              rw [rounds_succ]
              go_wp2_with fail
              rw [rounds_succ]
              go_wp2_with fail
              rw [rounds_succ]
              go_wp2_with fail
              refine (valid_at HL5.out (implLight_any a1 a2 a3 b1 b2 b3 c1 c2 c3 d1 d2 d3 ha1 ha2 ha3 hb1 hb2 hb3 hc1 hc2 hc3 hd1 hd2 hd3 _ (HL.out _ (by repeat' (first | (with_reducible first | assumption | exact Acc.refl _ | refine Acc.alloc ?_ _ | refine Acc.setCell ?_ ?_ _) | (refine leB ?_; omega)))))).mono ?_
              rintro e W5 ⟨rfl, hb⟩
              obtain ⟨Ba, Bv, Bs⟩ : Blk W5 (W0.heap.size) [.int .i64 a1, .int .i64 a2, .int .i64 a3, .int .i64 b1, .int .i64 b2, .int .i64 b3, .int .i64 c1, .int .i64 c2, .int .i64 c3, .int .i64 d1, .int .i64 d2, .int .i64 d3] ∧ Blk W5 (W3.heap.size) [.int .i64 x1, .int .i64 x2, .int .i64 x3, .int .i64 y1, .int .i64 y2, .int .i64 y3] ∧ Blk W5 (W4.heap.size) [.int .i64 s1, .int .i64 s2, .int .i64 s3, .int .i64 t1, .int .i64 t2, .int .i64 t3, .int .i64 u1, .int .i64 u2, .int .i64 u3, .int .i64 v1, .int .i64 v2, .int .i64 v3] := by
                refine ⟨?_, ?_, ?_⟩ <;> refine Blk.keep hb ?_ <;> (repeat' (first | (with_reducible first | assumption | apply Blk.set | (refine Blk.new ?_; focus (first | rfl | (simp; done))) | refine Blk.alloc ?_ _ | refine Blk.other ?_ ?_ _) | exact eqL rfl | (refine neB ?_; omega)))
              have ca := Ba.cell
              have fa := Ba.free
              have la_W5 := Ba.lt
              have cv := Bv.cell
              have fv := Bv.free
              have lv_W5 := Bv.lt
              have cs := Bs.cell
              have fs := Bs.free
              have ls_W5 := Bs.lt
              have kaW5 : Acc w W5 := by
                refine Acc.call ?_ hb
                (repeat' (first | (with_reducible first | assumption | exact Acc.refl _ | refine Acc.alloc ?_ _ | refine Acc.setCell ?_ ?_ _) | (refine leB ?_; omega)))
              clear hb
              go_wp2_with fail
              all_goals
                go_ret
                refine ⟨by first | rfl | (simp [*]; done) | (simp [go_sem, *]; done), ?_⟩
                show Acc w _
                (repeat' (first | (with_reducible first | assumption | exact Acc.refl _ | refine Acc.alloc ?_ _ | refine Acc.setCell ?_ ?_ _) | (refine leB ?_; omega)))
          · skip
            rw [rounds_succ]
            go_wp2_with fail
            rw [rounds_succ]
            go_wp2_with fail
            rw [rounds_succ]
            go_wp2_with fail
            rw [rounds_succ]
            go_wp2_with fail
            rw [rounds_succ]
            go_wp2_with fail
            refine (valid_at HL5.out (implLight_any a1 a2 a3 b1 b2 b3 c1 c2 c3 d1 d2 d3 ha1 ha2 ha3 hb1 hb2 hb3 hc1 hc2 hc3 hd1 hd2 hd3 _ (HL.out _ (by repeat' (first | (with_reducible first | assumption | exact Acc.refl _ | refine Acc.alloc ?_ _ | refine Acc.setCell ?_ ?_ _) | (refine leB ?_; omega)))))).mono ?_
            rintro e W5 ⟨rfl, hb⟩
            obtain ⟨Ba, Bv, Bs⟩ : Blk W5 (W0.heap.size) [.int .i64 a1, .int .i64 a2, .int .i64 a3, .int .i64 b1, .int .i64 b2, .int .i64 b3, .int .i64 c1, .int .i64 c2, .int .i64 c3, .int .i64 d1, .int .i64 d2, .int .i64 d3] ∧ Blk W5 (W3.heap.size) [.int .i64 x1, .int .i64 x2, .int .i64 x3, .int .i64 y1, .int .i64 y2, .int .i64 y3] ∧ Blk W5 (W4.heap.size) [.int .i64 s1, .int .i64 s2, .int .i64 s3, .int .i64 t1, .int .i64 t2, .int .i64 t3, .int .i64 u1, .int .i64 u2, .int .i64 u3, .int .i64 v1, .int .i64 v2, .int .i64 v3] := by
              refine ⟨?_, ?_, ?_⟩ <;> refine Blk.keep hb ?_ <;> (repeat' (first | (with_reducible first | assumption | apply Blk.set | (refine Blk.new ?_; focus (first | rfl | (simp; done))) | refine Blk.alloc ?_ _ | refine Blk.other ?_ ?_ _) | exact eqL rfl | (refine neB ?_; omega)))
            have ca := Ba.cell
            have fa := Ba.free
            have la_W5 := Ba.lt
            have cv := Bv.cell
            have fv := Bv.free
            have lv_W5 := Bv.lt
            have cs := Bs.cell
            have fs := Bs.free
            have ls_W5 := Bs.lt
            have kaW5 : Acc w W5 := by
              refine Acc.call ?_ hb
              (repeat' (first | (with_reducible first | assumption | exact Acc.refl _ | refine Acc.alloc ?_ _ | refine Acc.setCell ?_ ?_ _) | (refine leB ?_; omega)))
            clear hb
            go_wp2_with fail
            all_goals
              go_ret
              refine ⟨by first | rfl | (simp [*]; done) | (simp [go_sem, *]; done), ?_⟩
              show Acc w _
              (repeat' (first | (with_reducible first | assumption | exact Acc.refl _ | refine Acc.alloc ?_ _ | refine Acc.setCell ?_ ?_ _) | (refine leB ?_; omega)))
        · skip
          rw [rounds_succ]
          go_wp2_with fail
          rw [rounds_succ]
          go_wp2_with fail
          rw [rounds_succ]
          go_wp2_with fail
          rw [rounds_succ]
          go_wp2_with fail
          rw [rounds_succ]
          go_wp2_with fail
          refine (valid_at HL5.out (implLight_any a1 a2 a3 b1 b2 b3 c1 c2 c3 d1 d2 d3 ha1 ha2 ha3 hb1 hb2 hb3 hc1 hc2 hc3 hd1 hd2 hd3 _ (HL.out _ (by repeat' (first | (with_reducible first | assumption | exact Acc.refl _ | refine Acc.alloc ?_ _ | refine Acc.setCell ?_ ?_ _) | (refine leB ?_; omega)))))).mono ?_
          rintro e W5 ⟨rfl, hb⟩
          obtain ⟨Ba, Bv, Bs⟩ : Blk W5 (W0.heap.size) [.int .i64 a1, .int .i64 a2, .int .i64 a3, .int .i64 b1, .int .i64 b2, .int .i64 b3, .int .i64 c1, .int .i64 c2, .int .i64 c3, .int .i64 d1, .int .i64 d2, .int .i64 d3] ∧ Blk W5 (W3.heap.size) [.int .i64 x1, .int .i64 x2, .int .i64 x3, .int .i64 y1, .int .i64 y2, .int .i64 y3] ∧ Blk W5 (W4.heap.size) [.int .i64 s1, .int .i64 s2, .int .i64 s3, .int .i64 t1, .int .i64 t2, .int .i64 t3, .int .i64 u1, .int .i64 u2, .int .i64 u3, .int .i64 v1, .int .i64 v2, .int .i64 v3] := by
            refine ⟨?_, ?_, ?_⟩ <;> refine Blk.keep hb ?_ <;> (repeat' (first | (with_reducible first | assumption | apply Blk.set | (refine Blk.new ?_; focus (first | rfl | (simp; done))) | refine Blk.alloc ?_ _ | refine Blk.other ?_ ?_ _) | exact eqL rfl | (refine neB ?_; omega)))
          have ca := Ba.cell
          have fa := Ba.free
          have la_W5 := Ba.lt
          have cv := Bv.cell
          have fv := Bv.free
          have lv_W5 := Bv.lt
          have cs := Bs.cell
          have fs := Bs.free
          have ls_W5 := Bs.lt
          have kaW5 : Acc w W5 := by
            refine Acc.call ?_ hb
            (repeat' (first | (with_reducible first | assumption | exact Acc.refl _ | refine Acc.alloc ?_ _ | refine Acc.setCell ?_ ?_ _) | (refine leB ?_; omega)))
          clear hb
          go_wp2_with fail
          all_goals
            go_ret
            refine ⟨by first | rfl | (simp [*]; done) | (simp [go_sem, *]; done), ?_⟩
            show Acc w _
            (repeat' (first | (with_reducible first | assumption | exact Acc.refl _ | refine Acc.alloc ?_ _ | refine Acc.setCell ?_ ?_ _) | (refine leB ?_; omega)))
      · skip
        rw [rounds_succ]
        go_wp2_with fail
        rw [rounds_succ]
        go_wp2_with fail
        rw [rounds_succ]
        go_wp2_with fail
        rw [rounds_succ]
        go_wp2_with fail
        rw [rounds_succ]
        go_wp2_with fail
        refine (valid_at HL5.out (implLight_any a1 a2 a3 b1 b2 b3 c1 c2 c3 d1 d2 d3 ha1 ha2 ha3 hb1 hb2 hb3 hc1 hc2 hc3 hd1 hd2 hd3 _ (HL.out _ (by repeat' (first | (with_reducible first | assumption | exact Acc.refl _ | refine Acc.alloc ?_ _ | refine Acc.setCell ?_ ?_ _) | (refine leB ?_; omega)))))).mono ?_
        rintro e W5 ⟨rfl, hb⟩
        obtain ⟨Ba, Bv, Bs⟩ : Blk W5 (W0.heap.size) [.int .i64 a1, .int .i64 a2, .int .i64 a3, .int .i64 b1, .int .i64 b2, .int .i64 b3, .int .i64 c1, .int .i64 c2, .int .i64 c3, .int .i64 d1, .int .i64 d2, .int .i64 d3] ∧ Blk W5 (W3.heap.size) [.int .i64 x1, .int .i64 x2, .int .i64 x3, .int .i64 y1, .int .i64 y2, .int .i64 y3] ∧ Blk W5 (W4.heap.size) [.int .i64 s1, .int .i64 s2, .int .i64 s3, .int .i64 t1, .int .i64 t2, .int .i64 t3, .int .i64 u1, .int .i64 u2, .int .i64 u3, .int .i64 v1, .int .i64 v2, .int .i64 v3] := by
          refine ⟨?_, ?_, ?_⟩ <;> refine Blk.keep hb ?_ <;> (repeat' (first | (with_reducible first | assumption | apply Blk.set | (refine Blk.new ?_; focus (first | rfl | (simp; done))) | refine Blk.alloc ?_ _ | refine Blk.other ?_ ?_ _) | exact eqL rfl | (refine neB ?_; omega)))
        have ca := Ba.cell
        have fa := Ba.free
        have la_W5 := Ba.lt
        have cv := Bv.cell
        have fv := Bv.free
        have lv_W5 := Bv.lt
        have cs := Bs.cell
        have fs := Bs.free
        have ls_W5 := Bs.lt
        have kaW5 : Acc w W5 := by
          refine Acc.call ?_ hb
          (repeat' (first | (with_reducible first | assumption | exact Acc.refl _ | refine Acc.alloc ?_ _ | refine Acc.setCell ?_ ?_ _) | (refine leB ?_; omega)))
        clear hb
        go_wp2_with fail
        all_goals
          go_ret
          refine ⟨by first | rfl | (simp [*]; done) | (simp [go_sem, *]; done), ?_⟩
          show Acc w _
          (repeat' (first | (with_reducible first | assumption | exact Acc.refl _ | refine Acc.alloc ?_ _ | refine Acc.setCell ?_ ?_ _) | (refine leB ?_; omega)))
end Go.Proofs.YtchdcncnlfgjfaaGreatDoor
