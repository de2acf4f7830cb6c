/-
  The law of sums of vectors.
-/
import Derived.Test.YtbihlkienhbapabDoorDrawJones
import Derived.Test.YtbihlkienhbapabDoorJonesMath
import Derived.Test.YtbihlkienhbapabDoorGave
import Derived.Test.YtbihlkienhbapabDoorGave6
import Derived.Test.YtbihlkienhbapabDoorImplJ1
import Derived.Test.YtbihlkienhbapabDoorImplJ2
import Derived.Test.YtbihlkienhbapabDoorImplJ3
import Derived.Test.YtbihlkienhbapabDoorImplFn
namespace Go.Proofs.YtbihlkienhbapabDoor
open Go.ChangeShapes Go.WideShapes Go.ChangeAt Go.RowKit
set_option linter.unusedVariables false

set_option maxRecDepth 100000 in
set_option maxHeartbeats 16000000 in
theorem fnJonesAdd_law (w : World) (hl : Laid w) (s : Option Addr) (len cap : Nat) (h : Code8 w s len cap) :
    Calls Tryd.prog 6 #[.slice s len cap] w (Fine w) := by
  have hm := h.2.1
  have hl' := h.1
  unfold maxLen at hm
  have HL := Lib.hid fun W (k : Acc w W) => hl.acc k
  clear hl
  by_cases hlen : 1048576 < len
  · clear h
    have hlen' : (1048576 : Int) < (len : Int) := by omega
    go_enter Tryd.func6, Tryd.ntmps6
    go_wp2_with fail
    go_ret
    exact ⟨rfl, Below.refl _ _⟩
  have hlen' : ¬ (1048576 : Int) < (len : Int) := by omega
  go_enter Tryd.func6, Tryd.ntmps6
  go_wp2_with fail
  refine (drawJonesAdd_any s len cap w h).mono ?_
  rintro e W0 ⟨x1, x2, x3, y1, y2, y3, a1, a2, a3, b1, b2, b3, rfl, ⟨hx1, hx2, hx3, hy1, hy2, hy3⟩, ⟨ha1, ha2, ha3, hb1, hb2, hb3⟩, hb⟩
  have kaW0 : Acc w W0 := hb
  clear hb h
  go_wp2_with fail
  cases ho : jaddF x1 x2 x3 y1 y2 y3 a1 a2 a3 b1 b2 b3 with
  | none =>
   have HO := Lib.hid ho
   clear ho
   refine (gave6_none HO.out (implJAdd_any x1 x2 x3 y1 y2 y3 a1 a2 a3 b1 b2 b3 hx1 hx2 hx3 hy1 hy2 hy3 ha1 ha2 ha3 hb1 hb2 hb3 _ (HL.out _ (by repeat' (first | (with_reducible first | assumption | exact Acc.refl _ | refine Acc.alloc ?_ _ | refine Acc.setCell ?_ ?_ _) | (refine leB ?_; omega)))))).mono ?_
   rintro e W1 ⟨rfl, hb⟩
   obtain ⟨Ba, Bb⟩ : Blk W1 (W0.heap.size) [.int .i64 x1, .int .i64 x2, .int .i64 x3, .int .i64 y1, .int .i64 y2, .int .i64 y3] ∧ Blk W1 (W0.heap.size + 1) [.int .i64 a1, .int .i64 a2, .int .i64 a3, .int .i64 b1, .int .i64 b2, .int .i64 b3] := by
     refine ⟨?_, ?_⟩ <;> refine Blk.keep hb ?_ <;> (repeat' (first | (with_reducible first | assumption | apply Blk.set | (refine Blk.new ?_; focus (first | rfl | (simp; done))) | refine Blk.alloc ?_ _ | refine Blk.other ?_ ?_ _) | exact eqL rfl | (refine neB ?_; omega)))
   have ca := Ba.cell
   have fa := Ba.free
   have la_W1 := Ba.lt
   have cb := Bb.cell
   have fb := Bb.free
   have lb_W1 := Bb.lt
   have kaW1 : Acc w W1 := by
     refine Acc.call ?_ hb
     (repeat' (first | (with_reducible first | assumption | exact Acc.refl _ | refine Acc.alloc ?_ _ | refine Acc.setCell ?_ ?_ _) | (refine leB ?_; omega)))
   clear hb
   go_wp2_with fail
   refine (gave6_none HO.out (specJAdd_any x1 x2 x3 y1 y2 y3 a1 a2 a3 b1 b2 b3 _)).mono ?_
   rintro e W2 ⟨rfl, hb⟩
   obtain ⟨Ba, Bb, Bo⟩ : Blk W2 (W0.heap.size) [.int .i64 x1, .int .i64 x2, .int .i64 x3, .int .i64 y1, .int .i64 y2, .int .i64 y3] ∧ Blk W2 (W0.heap.size + 1) [.int .i64 a1, .int .i64 a2, .int .i64 a3, .int .i64 b1, .int .i64 b2, .int .i64 b3] ∧ Blk W2 (W1.heap.size) [.int .i64 0, .int .i64 0, .int .i64 0, .int .i64 0, .int .i64 0, .int .i64 0] := by
     refine ⟨?_, ?_, ?_⟩ <;> refine Blk.keep hb ?_ <;> (repeat' (first | (with_reducible first | assumption | apply Blk.set | (refine Blk.new ?_; focus (first | rfl | (simp; done))) | refine Blk.alloc ?_ _ | refine Blk.other ?_ ?_ _) | exact eqL rfl | (refine neB ?_; omega)))
   have ca := Ba.cell
   have fa := Ba.free
   have la_W2 := Ba.lt
   have cb := Bb.cell
   have fb := Bb.free
   have lb_W2 := Bb.lt
   have co := Bo.cell
   have fo := Bo.free
   have lo_W2 := Bo.lt
   have kaW2 : Acc w W2 := by
     refine Acc.call ?_ hb
     (repeat' (first | (with_reducible first | assumption | exact Acc.refl _ | refine Acc.alloc ?_ _ | refine Acc.setCell ?_ ?_ _) | (refine leB ?_; omega)))
   clear hb
   go_wp2_with fail
   go_ret
   refine ⟨rfl, ?_⟩
   show Acc w _
   (repeat' (first | (with_reducible first | assumption | exact Acc.refl _ | refine Acc.alloc ?_ _ | refine Acc.setCell ?_ ?_ _) | (refine leB ?_; omega)))
  | some v =>
   obtain ⟨⟨u1, u2, u3⟩, v1, v2, v3⟩ := v
   obtain ⟨hu1, hu2, hu3⟩ := okF_i64 (jadd_ok ho).1
   obtain ⟨hv1, hv2, hv3⟩ := okF_i64 (jadd_ok ho).2
   obtain ⟨_, oka, _⟩ := sum_some (pair_some ho).1
   obtain ⟨_, okb, _⟩ := sum_some (pair_some ho).2
   obtain ⟨hna1, hna2, _⟩ := okF_i64 ((okF_neg2 a1 a2 a3).trans oka)
   obtain ⟨hnb1, hnb2, _⟩ := okF_i64 ((okF_neg2 b1 b2 b3).trans okb)
   have HO := Lib.hid ho
   have HC := Lib.hid (jadd_comm ho)
   have HM := Lib.hid (jminus oka okb)
   clear ho oka okb
   refine (gave6_some HO.out (implJAdd_any x1 x2 x3 y1 y2 y3 a1 a2 a3 b1 b2 b3 hx1 hx2 hx3 hy1 hy2 hy3 ha1 ha2 ha3 hb1 hb2 hb3 _ (HL.out _ (by repeat' (first | (with_reducible first | assumption | exact Acc.refl _ | refine Acc.alloc ?_ _ | refine Acc.setCell ?_ ?_ _) | (refine leB ?_; omega)))))).mono ?_
   rintro e W1 ⟨rfl, hb⟩
   obtain ⟨Ba, Bb⟩ : Blk W1 (W0.heap.size) [.int .i64 x1, .int .i64 x2, .int .i64 x3, .int .i64 y1, .int .i64 y2, .int .i64 y3] ∧ Blk W1 (W0.heap.size + 1) [.int .i64 a1, .int .i64 a2, .int .i64 a3, .int .i64 b1, .int .i64 b2, .int .i64 b3] := by
     refine ⟨?_, ?_⟩ <;> refine Blk.keep hb ?_ <;> (repeat' (first | (with_reducible first | assumption | apply Blk.set | (refine Blk.new ?_; focus (first | rfl | (simp; done))) | refine Blk.alloc ?_ _ | refine Blk.other ?_ ?_ _) | exact eqL rfl | (refine neB ?_; omega)))
   have ca := Ba.cell
   have fa := Ba.free
   have la_W1 := Ba.lt
   have cb := Bb.cell
   have fb := Bb.free
   have lb_W1 := Bb.lt
   have kaW1 : Acc w W1 := by
     refine Acc.call ?_ hb
     (repeat' (first | (with_reducible first | assumption | exact Acc.refl _ | refine Acc.alloc ?_ _ | refine Acc.setCell ?_ ?_ _) | (refine leB ?_; omega)))
   clear hb
   go_wp2_with fail
   refine (gave6_some HO.out (specJAdd_any x1 x2 x3 y1 y2 y3 a1 a2 a3 b1 b2 b3 _)).mono ?_
   rintro e W2 ⟨rfl, hb⟩
   obtain ⟨Ba, Bb, Bo⟩ : Blk W2 (W0.heap.size) [.int .i64 x1, .int .i64 x2, .int .i64 x3, .int .i64 y1, .int .i64 y2, .int .i64 y3] ∧ Blk W2 (W0.heap.size + 1) [.int .i64 a1, .int .i64 a2, .int .i64 a3, .int .i64 b1, .int .i64 b2, .int .i64 b3] ∧ Blk W2 (W1.heap.size) [.int .i64 u1, .int .i64 u2, .int .i64 u3, .int .i64 v1, .int .i64 v2, .int .i64 v3] := by
     refine ⟨?_, ?_, ?_⟩ <;> refine Blk.keep hb ?_ <;> (repeat' (first | (with_reducible first | assumption | apply Blk.set | (refine Blk.new ?_; focus (first | rfl | (simp; done))) | refine Blk.alloc ?_ _ | refine Blk.other ?_ ?_ _) | exact eqL rfl | (refine neB ?_; omega)))
   have ca := Ba.cell
   have fa := Ba.free
   have la_W2 := Ba.lt
   have cb := Bb.cell
   have fb := Bb.free
   have lb_W2 := Bb.lt
   have co := Bo.cell
   have fo := Bo.free
   have lo_W2 := Bo.lt
   have kaW2 : Acc w W2 := by
     refine Acc.call ?_ hb
     (repeat' (first | (with_reducible first | assumption | exact Acc.refl _ | refine Acc.alloc ?_ _ | refine Acc.setCell ?_ ?_ _) | (refine leB ?_; omega)))
   clear hb
   go_wp2_with fail
   refine (gave6_some HC.out (implJAdd_any a1 a2 a3 b1 b2 b3 x1 x2 x3 y1 y2 y3 ha1 ha2 ha3 hb1 hb2 hb3 hx1 hx2 hx3 hy1 hy2 hy3 _ (HL.out _ (by repeat' (first | (with_reducible first | assumption | exact Acc.refl _ | refine Acc.alloc ?_ _ | refine Acc.setCell ?_ ?_ _) | (refine leB ?_; omega)))))).mono ?_
   rintro e W3 ⟨rfl, hb⟩
   obtain ⟨Ba, Bb, Bo, Bw⟩ : Blk W3 (W0.heap.size) [.int .i64 x1, .int .i64 x2, .int .i64 x3, .int .i64 y1, .int .i64 y2, .int .i64 y3] ∧ Blk W3 (W0.heap.size + 1) [.int .i64 a1, .int .i64 a2, .int .i64 a3, .int .i64 b1, .int .i64 b2, .int .i64 b3] ∧ Blk W3 (W1.heap.size) [.int .i64 u1, .int .i64 u2, .int .i64 u3, .int .i64 v1, .int .i64 v2, .int .i64 v3] ∧ Blk W3 (W2.heap.size) [.int .i64 u1, .int .i64 u2, .int .i64 u3, .int .i64 v1, .int .i64 v2, .int .i64 v3] := by
     refine ⟨?_, ?_, ?_, ?_⟩ <;> refine Blk.keep hb ?_ <;> (repeat' (first | (with_reducible first | assumption | apply Blk.set | (refine Blk.new ?_; focus (first | rfl | (simp; done))) | refine Blk.alloc ?_ _ | refine Blk.other ?_ ?_ _) | exact eqL rfl | (refine neB ?_; omega)))
   have ca := Ba.cell
   have fa := Ba.free
   have la_W3 := Ba.lt
   have cb := Bb.cell
   have fb := Bb.free
   have lb_W3 := Bb.lt
   have co := Bo.cell
   have fo := Bo.free
   have lo_W3 := Bo.lt
   have cw := Bw.cell
   have fw := Bw.free
   have lw_W3 := Bw.lt
   have kaW3 : Acc w W3 := by
     refine Acc.call ?_ hb
     (repeat' (first | (with_reducible first | assumption | exact Acc.refl _ | refine Acc.alloc ?_ _ | refine Acc.setCell ?_ ?_ _) | (refine leB ?_; omega)))
   clear hb
   go_wp2_with fail
   refine (gave6_some HM.out (implJTimes_any a1 a2 a3 b1 b2 b3 (-1) 0 1 ha1 ha2 ha3 hb1 hb2 hb3 i64_m1 i64_0 i64_1 _ (HL.out _ (by repeat' (first | (with_reducible first | assumption | exact Acc.refl _ | refine Acc.alloc ?_ _ | refine Acc.setCell ?_ ?_ _) | (refine leB ?_; omega)))))).mono ?_
   rintro e W4 ⟨rfl, hb⟩
   obtain ⟨Ba, Bb, Bo, Bw, Bx⟩ : Blk W4 (W0.heap.size) [.int .i64 x1, .int .i64 x2, .int .i64 x3, .int .i64 y1, .int .i64 y2, .int .i64 y3] ∧ Blk W4 (W0.heap.size + 1) [.int .i64 a1, .int .i64 a2, .int .i64 a3, .int .i64 b1, .int .i64 b2, .int .i64 b3] ∧ Blk W4 (W1.heap.size) [.int .i64 u1, .int .i64 u2, .int .i64 u3, .int .i64 v1, .int .i64 v2, .int .i64 v3] ∧ Blk W4 (W2.heap.size) [.int .i64 u1, .int .i64 u2, .int .i64 u3, .int .i64 v1, .int .i64 v2, .int .i64 v3] ∧ Blk W4 (W3.heap.size) [.int .i64 u1, .int .i64 u2, .int .i64 u3, .int .i64 v1, .int .i64 v2, .int .i64 v3] := by
     refine ⟨?_, ?_, ?_, ?_, ?_⟩ <;> refine Blk.keep hb ?_ <;> (repeat' (first | (with_reducible first | assumption | apply Blk.set | (refine Blk.new ?_; focus (first | rfl | (simp; done))) | refine Blk.alloc ?_ _ | refine Blk.other ?_ ?_ _) | exact eqL rfl | (refine neB ?_; omega)))
   have ca := Ba.cell
   have fa := Ba.free
   have la_W4 := Ba.lt
   have cb := Bb.cell
   have fb := Bb.free
   have lb_W4 := Bb.lt
   have co := Bo.cell
   have fo := Bo.free
   have lo_W4 := Bo.lt
   have cw := Bw.cell
   have fw := Bw.free
   have lw_W4 := Bw.lt
   have cx := Bx.cell
   have fx := Bx.free
   have lx_W4 := Bx.lt
   have kaW4 : Acc w W4 := by
     refine Acc.call ?_ hb
     (repeat' (first | (with_reducible first | assumption | exact Acc.refl _ | refine Acc.alloc ?_ _ | refine Acc.setCell ?_ ?_ _) | (refine leB ?_; omega)))
   clear hb
   go_wp2_with fail
   cases ht : jaddF x1 x2 x3 y1 y2 y3 (-a1) (-a2) a3 (-b1) (-b2) b3 with
   | none =>
    have HL1 := Lib.hid ht
    clear ht
    refine (gave6_none HL1.out (implJAdd_any x1 x2 x3 y1 y2 y3 (-a1) (-a2) a3 (-b1) (-b2) b3 hx1 hx2 hx3 hy1 hy2 hy3 hna1 hna2 ha3 hnb1 hnb2 hb3 _ (HL.out _ (by repeat' (first | (with_reducible first | assumption | exact Acc.refl _ | refine Acc.alloc ?_ _ | refine Acc.setCell ?_ ?_ _) | (refine leB ?_; omega)))))).mono ?_
    rintro e W5 ⟨rfl, hb⟩
    obtain ⟨Ba, Bb, Bo, Bw, Bx, Bm⟩ : Blk W5 (W0.heap.size) [.int .i64 x1, .int .i64 x2, .int .i64 x3, .int .i64 y1, .int .i64 y2, .int .i64 y3] ∧ Blk W5 (W0.heap.size + 1) [.int .i64 a1, .int .i64 a2, .int .i64 a3, .int .i64 b1, .int .i64 b2, .int .i64 b3] ∧ Blk W5 (W1.heap.size) [.int .i64 u1, .int .i64 u2, .int .i64 u3, .int .i64 v1, .int .i64 v2, .int .i64 v3] ∧ Blk W5 (W2.heap.size) [.int .i64 u1, .int .i64 u2, .int .i64 u3, .int .i64 v1, .int .i64 v2, .int .i64 v3] ∧ Blk W5 (W3.heap.size) [.int .i64 u1, .int .i64 u2, .int .i64 u3, .int .i64 v1, .int .i64 v2, .int .i64 v3] ∧ Blk W5 (W4.heap.size) [.int .i64 (-a1), .int .i64 (-a2), .int .i64 a3, .int .i64 (-b1), .int .i64 (-b2), .int .i64 b3] := by
      refine ⟨?_, ?_, ?_, ?_, ?_, ?_⟩ <;> refine Blk.keep hb ?_ <;> (repeat' (first | (with_reducible first | assumption | apply Blk.set | (refine Blk.new ?_; focus (first | rfl | (simp; done))) | refine Blk.alloc ?_ _ | refine Blk.other ?_ ?_ _) | exact eqL rfl | (refine neB ?_; omega)))
    have ca := Ba.cell
    have fa := Ba.free
    have la_W5 := Ba.lt
    have cb := Bb.cell
    have fb := Bb.free
    have lb_W5 := Bb.lt
    have co := Bo.cell
    have fo := Bo.free
    have lo_W5 := Bo.lt
    have cw := Bw.cell
    have fw := Bw.free
    have lw_W5 := Bw.lt
    have cx := Bx.cell
    have fx := Bx.free
    have lx_W5 := Bx.lt
    have cm := Bm.cell
    have fm := Bm.free
    have lm_W5 := Bm.lt
    have kaW5 : Acc w W5 := by
      refine Acc.call ?_ hb
      (repeat' (first | (with_reducible first | assumption | exact Acc.refl _ | refine Acc.alloc ?_ _ | refine Acc.setCell ?_ ?_ _) | (refine leB ?_; omega)))
    clear hb
    go_wp2_with fail
    obtain ⟨⟨c1, c2, c3⟩, hv⟩ : ∃ o, partsR (jpowF u1 u2 u3 v1 v2 v3) = o := ⟨_, rfl⟩
    obtain ⟨kc1, hk⟩ : ∃ k, okR (jpowF u1 u2 u3 v1 v2 v3) = k := ⟨_, rfl⟩
    obtain ⟨hc1, hc2, hc3⟩ := parts_i64 (fun _ _ _ h => jpow_ok h) hv
    have HV := Lib.hid hv
    have HK := Lib.hid hk
    clear hv hk
    refine (gave_any HV.out HK.out (implJPower_any u1 u2 u3 v1 v2 v3 hu1 hu2 hu3 hv1 hv2 hv3 _ (HL.out _ (by repeat' (first | (with_reducible first | assumption | exact Acc.refl _ | refine Acc.alloc ?_ _ | refine Acc.setCell ?_ ?_ _) | (refine leB ?_; omega)))))).mono ?_
    rintro e W6 ⟨rfl, hb⟩
    obtain ⟨Ba, Bb, Bo, Bw, Bx, Bm, Bl1⟩ : Blk W6 (W0.heap.size) [.int .i64 x1, .int .i64 x2, .int .i64 x3, .int .i64 y1, .int .i64 y2, .int .i64 y3] ∧ Blk W6 (W0.heap.size + 1) [.int .i64 a1, .int .i64 a2, .int .i64 a3, .int .i64 b1, .int .i64 b2, .int .i64 b3] ∧ Blk W6 (W1.heap.size) [.int .i64 u1, .int .i64 u2, .int .i64 u3, .int .i64 v1, .int .i64 v2, .int .i64 v3] ∧ Blk W6 (W2.heap.size) [.int .i64 u1, .int .i64 u2, .int .i64 u3, .int .i64 v1, .int .i64 v2, .int .i64 v3] ∧ Blk W6 (W3.heap.size) [.int .i64 u1, .int .i64 u2, .int .i64 u3, .int .i64 v1, .int .i64 v2, .int .i64 v3] ∧ Blk W6 (W4.heap.size) [.int .i64 (-a1), .int .i64 (-a2), .int .i64 a3, .int .i64 (-b1), .int .i64 (-b2), .int .i64 b3] ∧ Blk W6 (W5.heap.size) [.int .i64 0, .int .i64 0, .int .i64 0, .int .i64 0, .int .i64 0, .int .i64 0] := by
      refine ⟨?_, ?_, ?_, ?_, ?_, ?_, ?_⟩ <;> refine Blk.keep hb ?_ <;> (repeat' (first | (with_reducible first | assumption | apply Blk.set | (refine Blk.new ?_; focus (first | rfl | (simp; done))) | refine Blk.alloc ?_ _ | refine Blk.other ?_ ?_ _) | exact eqL rfl | (refine neB ?_; omega)))
    have ca := Ba.cell
    have fa := Ba.free
    have la_W6 := Ba.lt
    have cb := Bb.cell
    have fb := Bb.free
    have lb_W6 := Bb.lt
    have co := Bo.cell
    have fo := Bo.free
    have lo_W6 := Bo.lt
    have cw := Bw.cell
    have fw := Bw.free
    have lw_W6 := Bw.lt
    have cx := Bx.cell
    have fx := Bx.free
    have lx_W6 := Bx.lt
    have cm := Bm.cell
    have fm := Bm.free
    have lm_W6 := Bm.lt
    have cl1 := Bl1.cell
    have fl1 := Bl1.free
    have ll1_W6 := Bl1.lt
    have kaW6 : Acc w W6 := by
      refine Acc.call ?_ hb
      (repeat' (first | (with_reducible first | assumption | exact Acc.refl _ | refine Acc.alloc ?_ _ | refine Acc.setCell ?_ ?_ _) | (refine leB ?_; omega)))
    clear hb
    go_wp2_with fail
    obtain ⟨⟨d1, d2, d3⟩, hv⟩ : ∃ o, partsR (jpowF 0 0 0 0 0 0) = o := ⟨_, rfl⟩
    obtain ⟨kd, hk⟩ : ∃ k, okR (jpowF 0 0 0 0 0 0) = k := ⟨_, rfl⟩
    obtain ⟨hd1, hd2, hd3⟩ := parts_i64 (fun _ _ _ h => jpow_ok h) hv
    have HV := Lib.hid hv
    have HK := Lib.hid hk
    clear hv hk
    refine (gave_any HV.out HK.out (implJPower_any 0 0 0 0 0 0 i64_0 i64_0 i64_0 i64_0 i64_0 i64_0 _ (HL.out _ (by repeat' (first | (with_reducible first | assumption | exact Acc.refl _ | refine Acc.alloc ?_ _ | refine Acc.setCell ?_ ?_ _) | (refine leB ?_; omega)))))).mono ?_
    rintro e W7 ⟨rfl, hb⟩
    obtain ⟨Ba, Bb, Bo, Bw, Bx, Bm, Bl1, Bc1⟩ : Blk W7 (W0.heap.size) [.int .i64 x1, .int .i64 x2, .int .i64 x3, .int .i64 y1, .int .i64 y2, .int .i64 y3] ∧ Blk W7 (W0.heap.size + 1) [.int .i64 a1, .int .i64 a2, .int .i64 a3, .int .i64 b1, .int .i64 b2, .int .i64 b3] ∧ Blk W7 (W1.heap.size) [.int .i64 u1, .int .i64 u2, .int .i64 u3, .int .i64 v1, .int .i64 v2, .int .i64 v3] ∧ Blk W7 (W2.heap.size) [.int .i64 u1, .int .i64 u2, .int .i64 u3, .int .i64 v1, .int .i64 v2, .int .i64 v3] ∧ Blk W7 (W3.heap.size) [.int .i64 u1, .int .i64 u2, .int .i64 u3, .int .i64 v1, .int .i64 v2, .int .i64 v3] ∧ Blk W7 (W4.heap.size) [.int .i64 (-a1), .int .i64 (-a2), .int .i64 a3, .int .i64 (-b1), .int .i64 (-b2), .int .i64 b3] ∧ Blk W7 (W5.heap.size) [.int .i64 0, .int .i64 0, .int .i64 0, .int .i64 0, .int .i64 0, .int .i64 0] ∧ Blk W7 (W6.heap.size) [.int .i64 c1, .int .i64 c2, .int .i64 c3] := by
      refine ⟨?_, ?_, ?_, ?_, ?_, ?_, ?_, ?_⟩ <;> refine Blk.keep hb ?_ <;> (repeat' (first | (with_reducible first | assumption | apply Blk.set | (refine Blk.new ?_; focus (first | rfl | (simp; done))) | refine Blk.alloc ?_ _ | refine Blk.other ?_ ?_ _) | exact eqL rfl | (refine neB ?_; omega)))
    have ca := Ba.cell
    have fa := Ba.free
    have la_W7 := Ba.lt
    have cb := Bb.cell
    have fb := Bb.free
    have lb_W7 := Bb.lt
    have co := Bo.cell
    have fo := Bo.free
    have lo_W7 := Bo.lt
    have cw := Bw.cell
    have fw := Bw.free
    have lw_W7 := Bw.lt
    have cx := Bx.cell
    have fx := Bx.free
    have lx_W7 := Bx.lt
    have cm := Bm.cell
    have fm := Bm.free
    have lm_W7 := Bm.lt
    have cl1 := Bl1.cell
    have fl1 := Bl1.free
    have ll1_W7 := Bl1.lt
    have cc1 := Bc1.cell
    have fc1 := Bc1.free
    have lc1_W7 := Bc1.lt
    have kaW7 : Acc w W7 := by
      refine Acc.call ?_ hb
      (repeat' (first | (with_reducible first | assumption | exact Acc.refl _ | refine Acc.alloc ?_ _ | refine Acc.setCell ?_ ?_ _) | (refine leB ?_; omega)))
    clear hb
    go_wp2_with fail
    obtain ⟨⟨e1, e2, e3⟩, hv⟩ : ∃ o, partsR (jpowF x1 x2 x3 y1 y2 y3) = o := ⟨_, rfl⟩
    obtain ⟨ke, hk⟩ : ∃ k, okR (jpowF x1 x2 x3 y1 y2 y3) = k := ⟨_, rfl⟩
    obtain ⟨he1, he2, he3⟩ := parts_i64 (fun _ _ _ h => jpow_ok h) hv
    have HV := Lib.hid hv
    have HK := Lib.hid hk
    clear hv hk
    refine (gave_any HV.out HK.out (implJPower_any x1 x2 x3 y1 y2 y3 hx1 hx2 hx3 hy1 hy2 hy3 _ (HL.out _ (by repeat' (first | (with_reducible first | assumption | exact Acc.refl _ | refine Acc.alloc ?_ _ | refine Acc.setCell ?_ ?_ _) | (refine leB ?_; omega)))))).mono ?_
    rintro e W8 ⟨rfl, hb⟩
    obtain ⟨Ba, Bb, Bo, Bw, Bx, Bm, Bl1, Bc1, Bd⟩ : Blk W8 (W0.heap.size) [.int .i64 x1, .int .i64 x2, .int .i64 x3, .int .i64 y1, .int .i64 y2, .int .i64 y3] ∧ Blk W8 (W0.heap.size + 1) [.int .i64 a1, .int .i64 a2, .int .i64 a3, .int .i64 b1, .int .i64 b2, .int .i64 b3] ∧ Blk W8 (W1.heap.size) [.int .i64 u1, .int .i64 u2, .int .i64 u3, .int .i64 v1, .int .i64 v2, .int .i64 v3] ∧ Blk W8 (W2.heap.size) [.int .i64 u1, .int .i64 u2, .int .i64 u3, .int .i64 v1, .int .i64 v2, .int .i64 v3] ∧ Blk W8 (W3.heap.size) [.int .i64 u1, .int .i64 u2, .int .i64 u3, .int .i64 v1, .int .i64 v2, .int .i64 v3] ∧ Blk W8 (W4.heap.size) [.int .i64 (-a1), .int .i64 (-a2), .int .i64 a3, .int .i64 (-b1), .int .i64 (-b2), .int .i64 b3] ∧ Blk W8 (W5.heap.size) [.int .i64 0, .int .i64 0, .int .i64 0, .int .i64 0, .int .i64 0, .int .i64 0] ∧ Blk W8 (W6.heap.size) [.int .i64 c1, .int .i64 c2, .int .i64 c3] ∧ Blk W8 (W7.heap.size) [.int .i64 d1, .int .i64 d2, .int .i64 d3] := by
      refine ⟨?_, ?_, ?_, ?_, ?_, ?_, ?_, ?_, ?_⟩ <;> refine Blk.keep hb ?_ <;> (repeat' (first | (with_reducible first | assumption | apply Blk.set | (refine Blk.new ?_; focus (first | rfl | (simp; done))) | refine Blk.alloc ?_ _ | refine Blk.other ?_ ?_ _) | exact eqL rfl | (refine neB ?_; omega)))
    have ca := Ba.cell
    have fa := Ba.free
    have la_W8 := Ba.lt
    have cb := Bb.cell
    have fb := Bb.free
    have lb_W8 := Bb.lt
    have co := Bo.cell
    have fo := Bo.free
    have lo_W8 := Bo.lt
    have cw := Bw.cell
    have fw := Bw.free
    have lw_W8 := Bw.lt
    have cx := Bx.cell
    have fx := Bx.free
    have lx_W8 := Bx.lt
    have cm := Bm.cell
    have fm := Bm.free
    have lm_W8 := Bm.lt
    have cl1 := Bl1.cell
    have fl1 := Bl1.free
    have ll1_W8 := Bl1.lt
    have cc1 := Bc1.cell
    have fc1 := Bc1.free
    have lc1_W8 := Bc1.lt
    have cd := Bd.cell
    have fd := Bd.free
    have ld_W8 := Bd.lt
    have kaW8 : Acc w W8 := by
      refine Acc.call ?_ hb
      (repeat' (first | (with_reducible first | assumption | exact Acc.refl _ | refine Acc.alloc ?_ _ | refine Acc.setCell ?_ ?_ _) | (refine leB ?_; omega)))
    clear hb
    go_wp2_with fail
    obtain ⟨⟨f1, f2, f3⟩, hv⟩ : ∃ o, partsR (jpowF a1 a2 a3 b1 b2 b3) = o := ⟨_, rfl⟩
    obtain ⟨kf, hk⟩ : ∃ k, okR (jpowF a1 a2 a3 b1 b2 b3) = k := ⟨_, rfl⟩
    obtain ⟨hf1, hf2, hf3⟩ := parts_i64 (fun _ _ _ h => jpow_ok h) hv
    have HV := Lib.hid hv
    have HK := Lib.hid hk
    clear hv hk
    refine (gave_any HV.out HK.out (implJPower_any a1 a2 a3 b1 b2 b3 ha1 ha2 ha3 hb1 hb2 hb3 _ (HL.out _ (by repeat' (first | (with_reducible first | assumption | exact Acc.refl _ | refine Acc.alloc ?_ _ | refine Acc.setCell ?_ ?_ _) | (refine leB ?_; omega)))))).mono ?_
    rintro e W9 ⟨rfl, hb⟩
    obtain ⟨Ba, Bb, Bo, Bw, Bx, Bm, Bl1, Bc1, Bd, Be⟩ : Blk W9 (W0.heap.size) [.int .i64 x1, .int .i64 x2, .int .i64 x3, .int .i64 y1, .int .i64 y2, .int .i64 y3] ∧ Blk W9 (W0.heap.size + 1) [.int .i64 a1, .int .i64 a2, .int .i64 a3, .int .i64 b1, .int .i64 b2, .int .i64 b3] ∧ Blk W9 (W1.heap.size) [.int .i64 u1, .int .i64 u2, .int .i64 u3, .int .i64 v1, .int .i64 v2, .int .i64 v3] ∧ Blk W9 (W2.heap.size) [.int .i64 u1, .int .i64 u2, .int .i64 u3, .int .i64 v1, .int .i64 v2, .int .i64 v3] ∧ Blk W9 (W3.heap.size) [.int .i64 u1, .int .i64 u2, .int .i64 u3, .int .i64 v1, .int .i64 v2, .int .i64 v3] ∧ Blk W9 (W4.heap.size) [.int .i64 (-a1), .int .i64 (-a2), .int .i64 a3, .int .i64 (-b1), .int .i64 (-b2), .int .i64 b3] ∧ Blk W9 (W5.heap.size) [.int .i64 0, .int .i64 0, .int .i64 0, .int .i64 0, .int .i64 0, .int .i64 0] ∧ Blk W9 (W6.heap.size) [.int .i64 c1, .int .i64 c2, .int .i64 c3] ∧ Blk W9 (W7.heap.size) [.int .i64 d1, .int .i64 d2, .int .i64 d3] ∧ Blk W9 (W8.heap.size) [.int .i64 e1, .int .i64 e2, .int .i64 e3] := by
      refine ⟨?_, ?_, ?_, ?_, ?_, ?_, ?_, ?_, ?_, ?_⟩ <;> refine Blk.keep hb ?_ <;> (repeat' (first | (with_reducible first | assumption | apply Blk.set | (refine Blk.new ?_; focus (first | rfl | (simp; done))) | refine Blk.alloc ?_ _ | refine Blk.other ?_ ?_ _) | exact eqL rfl | (refine neB ?_; omega)))
    have ca := Ba.cell
    have fa := Ba.free
    have la_W9 := Ba.lt
    have cb := Bb.cell
    have fb := Bb.free
    have lb_W9 := Bb.lt
    have co := Bo.cell
    have fo := Bo.free
    have lo_W9 := Bo.lt
    have cw := Bw.cell
    have fw := Bw.free
    have lw_W9 := Bw.lt
    have cx := Bx.cell
    have fx := Bx.free
    have lx_W9 := Bx.lt
    have cm := Bm.cell
    have fm := Bm.free
    have lm_W9 := Bm.lt
    have cl1 := Bl1.cell
    have fl1 := Bl1.free
    have ll1_W9 := Bl1.lt
    have cc1 := Bc1.cell
    have fc1 := Bc1.free
    have lc1_W9 := Bc1.lt
    have cd := Bd.cell
    have fd := Bd.free
    have ld_W9 := Bd.lt
    have ce := Be.cell
    have fe := Be.free
    have le_W9 := Be.lt
    have kaW9 : Acc w W9 := by
      refine Acc.call ?_ hb
      (repeat' (first | (with_reducible first | assumption | exact Acc.refl _ | refine Acc.alloc ?_ _ | refine Acc.setCell ?_ ?_ _) | (refine leB ?_; omega)))
    clear hb
    go_wp2_with fail
    obtain ⟨⟨g1, g2, g3⟩, hv⟩ : ∃ o, partsR (sumF 1 e1 e2 e3 f1 f2 f3) = o := ⟨_, rfl⟩
    obtain ⟨kg, hk⟩ : ∃ k, okR (sumF 1 e1 e2 e3 f1 f2 f3) = k := ⟨_, rfl⟩
    obtain ⟨hg1, hg2, hg3⟩ := parts_i64 (fun _ _ _ h => sum_ok h) hv
    have HV := Lib.hid hv
    have HK := Lib.hid hk
    clear hv hk
    refine (gave_any HV.out HK.out (implAdd_any e1 e2 e3 f1 f2 f3 he1 he2 he3 hf1 hf2 hf3 _ (HL.out _ (by repeat' (first | (with_reducible first | assumption | exact Acc.refl _ | refine Acc.alloc ?_ _ | refine Acc.setCell ?_ ?_ _) | (refine leB ?_; omega)))))).mono ?_
    rintro e W10 ⟨rfl, hb⟩
    obtain ⟨Ba, Bb, Bo, Bw, Bx, Bm, Bl1, Bc1, Bd, Be, Bf⟩ : Blk W10 (W0.heap.size) [.int .i64 x1, .int .i64 x2, .int .i64 x3, .int .i64 y1, .int .i64 y2, .int .i64 y3] ∧ Blk W10 (W0.heap.size + 1) [.int .i64 a1, .int .i64 a2, .int .i64 a3, .int .i64 b1, .int .i64 b2, .int .i64 b3] ∧ Blk W10 (W1.heap.size) [.int .i64 u1, .int .i64 u2, .int .i64 u3, .int .i64 v1, .int .i64 v2, .int .i64 v3] ∧ Blk W10 (W2.heap.size) [.int .i64 u1, .int .i64 u2, .int .i64 u3, .int .i64 v1, .int .i64 v2, .int .i64 v3] ∧ Blk W10 (W3.heap.size) [.int .i64 u1, .int .i64 u2, .int .i64 u3, .int .i64 v1, .int .i64 v2, .int .i64 v3] ∧ Blk W10 (W4.heap.size) [.int .i64 (-a1), .int .i64 (-a2), .int .i64 a3, .int .i64 (-b1), .int .i64 (-b2), .int .i64 b3] ∧ Blk W10 (W5.heap.size) [.int .i64 0, .int .i64 0, .int .i64 0, .int .i64 0, .int .i64 0, .int .i64 0] ∧ Blk W10 (W6.heap.size) [.int .i64 c1, .int .i64 c2, .int .i64 c3] ∧ Blk W10 (W7.heap.size) [.int .i64 d1, .int .i64 d2, .int .i64 d3] ∧ Blk W10 (W8.heap.size) [.int .i64 e1, .int .i64 e2, .int .i64 e3] ∧ Blk W10 (W9.heap.size) [.int .i64 f1, .int .i64 f2, .int .i64 f3] := by
      refine ⟨?_, ?_, ?_, ?_, ?_, ?_, ?_, ?_, ?_, ?_, ?_⟩ <;> refine Blk.keep hb ?_ <;> (repeat' (first | (with_reducible first | assumption | apply Blk.set | (refine Blk.new ?_; focus (first | rfl | (simp; done))) | refine Blk.alloc ?_ _ | refine Blk.other ?_ ?_ _) | exact eqL rfl | (refine neB ?_; omega)))
    have ca := Ba.cell
    have fa := Ba.free
    have la_W10 := Ba.lt
    have cb := Bb.cell
    have fb := Bb.free
    have lb_W10 := Bb.lt
    have co := Bo.cell
    have fo := Bo.free
    have lo_W10 := Bo.lt
    have cw := Bw.cell
    have fw := Bw.free
    have lw_W10 := Bw.lt
    have cx := Bx.cell
    have fx := Bx.free
    have lx_W10 := Bx.lt
    have cm := Bm.cell
    have fm := Bm.free
    have lm_W10 := Bm.lt
    have cl1 := Bl1.cell
    have fl1 := Bl1.free
    have ll1_W10 := Bl1.lt
    have cc1 := Bc1.cell
    have fc1 := Bc1.free
    have lc1_W10 := Bc1.lt
    have cd := Bd.cell
    have fd := Bd.free
    have ld_W10 := Bd.lt
    have ce := Be.cell
    have fe := Be.free
    have le_W10 := Be.lt
    have cf := Bf.cell
    have ff := Bf.free
    have lf_W10 := Bf.lt
    have kaW10 : Acc w W10 := by
      refine Acc.call ?_ hb
      (repeat' (first | (with_reducible first | assumption | exact Acc.refl _ | refine Acc.alloc ?_ _ | refine Acc.setCell ?_ ?_ _) | (refine leB ?_; omega)))
    clear hb
    go_wp2_with fail
    obtain ⟨⟨t1, t2, t3⟩, hv⟩ : ∃ o, partsR (sumF 1 g1 g2 g3 g1 g2 g3) = o := ⟨_, rfl⟩
    obtain ⟨kt, hk⟩ : ∃ k, okR (sumF 1 g1 g2 g3 g1 g2 g3) = k := ⟨_, rfl⟩
    obtain ⟨ht1, ht2, ht3⟩ := parts_i64 (fun _ _ _ h => sum_ok h) hv
    have HV := Lib.hid hv
    have HK := Lib.hid hk
    clear hv hk
    refine (gave_any HV.out HK.out (implAdd_any g1 g2 g3 g1 g2 g3 hg1 hg2 hg3 hg1 hg2 hg3 _ (HL.out _ (by repeat' (first | (with_reducible first | assumption | exact Acc.refl _ | refine Acc.alloc ?_ _ | refine Acc.setCell ?_ ?_ _) | (refine leB ?_; omega)))))).mono ?_
    rintro e W11 ⟨rfl, hb⟩
    obtain ⟨Ba, Bb, Bo, Bw, Bx, Bm, Bl1, Bc1, Bd, Be, Bf, Bg⟩ : Blk W11 (W0.heap.size) [.int .i64 x1, .int .i64 x2, .int .i64 x3, .int .i64 y1, .int .i64 y2, .int .i64 y3] ∧ Blk W11 (W0.heap.size + 1) [.int .i64 a1, .int .i64 a2, .int .i64 a3, .int .i64 b1, .int .i64 b2, .int .i64 b3] ∧ Blk W11 (W1.heap.size) [.int .i64 u1, .int .i64 u2, .int .i64 u3, .int .i64 v1, .int .i64 v2, .int .i64 v3] ∧ Blk W11 (W2.heap.size) [.int .i64 u1, .int .i64 u2, .int .i64 u3, .int .i64 v1, .int .i64 v2, .int .i64 v3] ∧ Blk W11 (W3.heap.size) [.int .i64 u1, .int .i64 u2, .int .i64 u3, .int .i64 v1, .int .i64 v2, .int .i64 v3] ∧ Blk W11 (W4.heap.size) [.int .i64 (-a1), .int .i64 (-a2), .int .i64 a3, .int .i64 (-b1), .int .i64 (-b2), .int .i64 b3] ∧ Blk W11 (W5.heap.size) [.int .i64 0, .int .i64 0, .int .i64 0, .int .i64 0, .int .i64 0, .int .i64 0] ∧ Blk W11 (W6.heap.size) [.int .i64 c1, .int .i64 c2, .int .i64 c3] ∧ Blk W11 (W7.heap.size) [.int .i64 d1, .int .i64 d2, .int .i64 d3] ∧ Blk W11 (W8.heap.size) [.int .i64 e1, .int .i64 e2, .int .i64 e3] ∧ Blk W11 (W9.heap.size) [.int .i64 f1, .int .i64 f2, .int .i64 f3] ∧ Blk W11 (W10.heap.size) [.int .i64 g1, .int .i64 g2, .int .i64 g3] := by
      refine ⟨?_, ?_, ?_, ?_, ?_, ?_, ?_, ?_, ?_, ?_, ?_, ?_⟩ <;> refine Blk.keep hb ?_ <;> (repeat' (first | (with_reducible first | assumption | apply Blk.set | (refine Blk.new ?_; focus (first | rfl | (simp; done))) | refine Blk.alloc ?_ _ | refine Blk.other ?_ ?_ _) | exact eqL rfl | (refine neB ?_; omega)))
    have ca := Ba.cell
    have fa := Ba.free
    have la_W11 := Ba.lt
    have cb := Bb.cell
    have fb := Bb.free
    have lb_W11 := Bb.lt
    have co := Bo.cell
    have fo := Bo.free
    have lo_W11 := Bo.lt
    have cw := Bw.cell
    have fw := Bw.free
    have lw_W11 := Bw.lt
    have cx := Bx.cell
    have fx := Bx.free
    have lx_W11 := Bx.lt
    have cm := Bm.cell
    have fm := Bm.free
    have lm_W11 := Bm.lt
    have cl1 := Bl1.cell
    have fl1 := Bl1.free
    have ll1_W11 := Bl1.lt
    have cc1 := Bc1.cell
    have fc1 := Bc1.free
    have lc1_W11 := Bc1.lt
    have cd := Bd.cell
    have fd := Bd.free
    have ld_W11 := Bd.lt
    have ce := Be.cell
    have fe := Be.free
    have le_W11 := Be.lt
    have cf := Bf.cell
    have ff := Bf.free
    have lf_W11 := Bf.lt
    have cg := Bg.cell
    have fg := Bg.free
    have lg_W11 := Bg.lt
    have kaW11 : Acc w W11 := by
      refine Acc.call ?_ hb
      (repeat' (first | (with_reducible first | assumption | exact Acc.refl _ | refine Acc.alloc ?_ _ | refine Acc.setCell ?_ ?_ _) | (refine leB ?_; omega)))
    clear hb
    go_wp2_with fail
    obtain ⟨⟨s1, s2, s3⟩, hv⟩ : ∃ o, partsR (sumF 1 c1 c2 c3 d1 d2 d3) = o := ⟨_, rfl⟩
    obtain ⟨ks, hk⟩ : ∃ k, okR (sumF 1 c1 c2 c3 d1 d2 d3) = k := ⟨_, rfl⟩
    obtain ⟨hs1, hs2, hs3⟩ := parts_i64 (fun _ _ _ h => sum_ok h) hv
    have HV := Lib.hid hv
    have HK := Lib.hid hk
    clear hv hk
    refine (gave_any HV.out HK.out (implAdd_any c1 c2 c3 d1 d2 d3 hc1 hc2 hc3 hd1 hd2 hd3 _ (HL.out _ (by repeat' (first | (with_reducible first | assumption | exact Acc.refl _ | refine Acc.alloc ?_ _ | refine Acc.setCell ?_ ?_ _) | (refine leB ?_; omega)))))).mono ?_
    rintro e W12 ⟨rfl, hb⟩
    obtain ⟨Ba, Bb, Bo, Bw, Bx, Bm, Bl1, Bc1, Bd, Be, Bf, Bg, Bt⟩ : Blk W12 (W0.heap.size) [.int .i64 x1, .int .i64 x2, .int .i64 x3, .int .i64 y1, .int .i64 y2, .int .i64 y3] ∧ Blk W12 (W0.heap.size + 1) [.int .i64 a1, .int .i64 a2, .int .i64 a3, .int .i64 b1, .int .i64 b2, .int .i64 b3] ∧ Blk W12 (W1.heap.size) [.int .i64 u1, .int .i64 u2, .int .i64 u3, .int .i64 v1, .int .i64 v2, .int .i64 v3] ∧ Blk W12 (W2.heap.size) [.int .i64 u1, .int .i64 u2, .int .i64 u3, .int .i64 v1, .int .i64 v2, .int .i64 v3] ∧ Blk W12 (W3.heap.size) [.int .i64 u1, .int .i64 u2, .int .i64 u3, .int .i64 v1, .int .i64 v2, .int .i64 v3] ∧ Blk W12 (W4.heap.size) [.int .i64 (-a1), .int .i64 (-a2), .int .i64 a3, .int .i64 (-b1), .int .i64 (-b2), .int .i64 b3] ∧ Blk W12 (W5.heap.size) [.int .i64 0, .int .i64 0, .int .i64 0, .int .i64 0, .int .i64 0, .int .i64 0] ∧ Blk W12 (W6.heap.size) [.int .i64 c1, .int .i64 c2, .int .i64 c3] ∧ Blk W12 (W7.heap.size) [.int .i64 d1, .int .i64 d2, .int .i64 d3] ∧ Blk W12 (W8.heap.size) [.int .i64 e1, .int .i64 e2, .int .i64 e3] ∧ Blk W12 (W9.heap.size) [.int .i64 f1, .int .i64 f2, .int .i64 f3] ∧ Blk W12 (W10.heap.size) [.int .i64 g1, .int .i64 g2, .int .i64 g3] ∧ Blk W12 (W11.heap.size) [.int .i64 t1, .int .i64 t2, .int .i64 t3] := by
      refine ⟨?_, ?_, ?_, ?_, ?_, ?_, ?_, ?_, ?_, ?_, ?_, ?_, ?_⟩ <;> refine Blk.keep hb ?_ <;> (repeat' (first | (with_reducible first | assumption | apply Blk.set | (refine Blk.new ?_; focus (first | rfl | (simp; done))) | refine Blk.alloc ?_ _ | refine Blk.other ?_ ?_ _) | exact eqL rfl | (refine neB ?_; omega)))
    have ca := Ba.cell
    have fa := Ba.free
    have la_W12 := Ba.lt
    have cb := Bb.cell
    have fb := Bb.free
    have lb_W12 := Bb.lt
    have co := Bo.cell
    have fo := Bo.free
    have lo_W12 := Bo.lt
    have cw := Bw.cell
    have fw := Bw.free
    have lw_W12 := Bw.lt
    have cx := Bx.cell
    have fx := Bx.free
    have lx_W12 := Bx.lt
    have cm := Bm.cell
    have fm := Bm.free
    have lm_W12 := Bm.lt
    have cl1 := Bl1.cell
    have fl1 := Bl1.free
    have ll1_W12 := Bl1.lt
    have cc1 := Bc1.cell
    have fc1 := Bc1.free
    have lc1_W12 := Bc1.lt
    have cd := Bd.cell
    have fd := Bd.free
    have ld_W12 := Bd.lt
    have ce := Be.cell
    have fe := Be.free
    have le_W12 := Be.lt
    have cf := Bf.cell
    have ff := Bf.free
    have lf_W12 := Bf.lt
    have cg := Bg.cell
    have fg := Bg.free
    have lg_W12 := Bg.lt
    have ct := Bt.cell
    have ft := Bt.free
    have lt_W12 := Bt.lt
    have kaW12 : Acc w W12 := by
      refine Acc.call ?_ hb
      (repeat' (first | (with_reducible first | assumption | exact Acc.refl _ | refine Acc.alloc ?_ _ | refine Acc.setCell ?_ ?_ _) | (refine leB ?_; omega)))
    clear hb
    go_wp2_with fail
    all_goals
      go_ret
      refine ⟨by first | rfl | (simp [*]; done) | (simp [go_sem, *]; done), ?_⟩
      show Acc w _
      (repeat' (first | (with_reducible first | assumption | exact Acc.refl _ | refine Acc.alloc ?_ _ | refine Acc.setCell ?_ ?_ _) | (refine leB ?_; omega)))
   | some v =>
    obtain ⟨⟨m1, m2, m3⟩, n1, n2, n3⟩ := v
    obtain ⟨hm1, hm2, hm3⟩ := okF_i64 (jadd_ok ht).1
    obtain ⟨hn1, hn2, hn3⟩ := okF_i64 (jadd_ok ht).2
    have HL1 := Lib.hid ht
    clear ht
    refine (gave6_some HL1.out (implJAdd_any x1 x2 x3 y1 y2 y3 (-a1) (-a2) a3 (-b1) (-b2) b3 hx1 hx2 hx3 hy1 hy2 hy3 hna1 hna2 ha3 hnb1 hnb2 hb3 _ (HL.out _ (by repeat' (first | (with_reducible first | assumption | exact Acc.refl _ | refine Acc.alloc ?_ _ | refine Acc.setCell ?_ ?_ _) | (refine leB ?_; omega)))))).mono ?_
    rintro e W5 ⟨rfl, hb⟩
    obtain ⟨Ba, Bb, Bo, Bw, Bx, Bm⟩ : Blk W5 (W0.heap.size) [.int .i64 x1, .int .i64 x2, .int .i64 x3, .int .i64 y1, .int .i64 y2, .int .i64 y3] ∧ Blk W5 (W0.heap.size + 1) [.int .i64 a1, .int .i64 a2, .int .i64 a3, .int .i64 b1, .int .i64 b2, .int .i64 b3] ∧ Blk W5 (W1.heap.size) [.int .i64 u1, .int .i64 u2, .int .i64 u3, .int .i64 v1, .int .i64 v2, .int .i64 v3] ∧ Blk W5 (W2.heap.size) [.int .i64 u1, .int .i64 u2, .int .i64 u3, .int .i64 v1, .int .i64 v2, .int .i64 v3] ∧ Blk W5 (W3.heap.size) [.int .i64 u1, .int .i64 u2, .int .i64 u3, .int .i64 v1, .int .i64 v2, .int .i64 v3] ∧ Blk W5 (W4.heap.size) [.int .i64 (-a1), .int .i64 (-a2), .int .i64 a3, .int .i64 (-b1), .int .i64 (-b2), .int .i64 b3] := by
      refine ⟨?_, ?_, ?_, ?_, ?_, ?_⟩ <;> refine Blk.keep hb ?_ <;> (repeat' (first | (with_reducible first | assumption | apply Blk.set | (refine Blk.new ?_; focus (first | rfl | (simp; done))) | refine Blk.alloc ?_ _ | refine Blk.other ?_ ?_ _) | exact eqL rfl | (refine neB ?_; omega)))
    have ca := Ba.cell
    have fa := Ba.free
    have la_W5 := Ba.lt
    have cb := Bb.cell
    have fb := Bb.free
    have lb_W5 := Bb.lt
    have co := Bo.cell
    have fo := Bo.free
    have lo_W5 := Bo.lt
    have cw := Bw.cell
    have fw := Bw.free
    have lw_W5 := Bw.lt
    have cx := Bx.cell
    have fx := Bx.free
    have lx_W5 := Bx.lt
    have cm := Bm.cell
    have fm := Bm.free
    have lm_W5 := Bm.lt
    have kaW5 : Acc w W5 := by
      refine Acc.call ?_ hb
      (repeat' (first | (with_reducible first | assumption | exact Acc.refl _ | refine Acc.alloc ?_ _ | refine Acc.setCell ?_ ?_ _) | (refine leB ?_; omega)))
    clear hb
    go_wp2_with fail
    cases ht : jpowF u1 u2 u3 v1 v2 v3 with
    | none =>
     have HC1 := Lib.hid ht
     clear ht
     refine (gave_none HC1.out (implJPower_any u1 u2 u3 v1 v2 v3 hu1 hu2 hu3 hv1 hv2 hv3 _ (HL.out _ (by repeat' (first | (with_reducible first | assumption | exact Acc.refl _ | refine Acc.alloc ?_ _ | refine Acc.setCell ?_ ?_ _) | (refine leB ?_; omega)))))).mono ?_
     rintro e W6 ⟨rfl, hb⟩
     obtain ⟨Ba, Bb, Bo, Bw, Bx, Bm, Bl1⟩ : Blk W6 (W0.heap.size) [.int .i64 x1, .int .i64 x2, .int .i64 x3, .int .i64 y1, .int .i64 y2, .int .i64 y3] ∧ Blk W6 (W0.heap.size + 1) [.int .i64 a1, .int .i64 a2, .int .i64 a3, .int .i64 b1, .int .i64 b2, .int .i64 b3] ∧ Blk W6 (W1.heap.size) [.int .i64 u1, .int .i64 u2, .int .i64 u3, .int .i64 v1, .int .i64 v2, .int .i64 v3] ∧ Blk W6 (W2.heap.size) [.int .i64 u1, .int .i64 u2, .int .i64 u3, .int .i64 v1, .int .i64 v2, .int .i64 v3] ∧ Blk W6 (W3.heap.size) [.int .i64 u1, .int .i64 u2, .int .i64 u3, .int .i64 v1, .int .i64 v2, .int .i64 v3] ∧ Blk W6 (W4.heap.size) [.int .i64 (-a1), .int .i64 (-a2), .int .i64 a3, .int .i64 (-b1), .int .i64 (-b2), .int .i64 b3] ∧ Blk W6 (W5.heap.size) [.int .i64 m1, .int .i64 m2, .int .i64 m3, .int .i64 n1, .int .i64 n2, .int .i64 n3] := by
       refine ⟨?_, ?_, ?_, ?_, ?_, ?_, ?_⟩ <;> refine Blk.keep hb ?_ <;> (repeat' (first | (with_reducible first | assumption | apply Blk.set | (refine Blk.new ?_; focus (first | rfl | (simp; done))) | refine Blk.alloc ?_ _ | refine Blk.other ?_ ?_ _) | exact eqL rfl | (refine neB ?_; omega)))
     have ca := Ba.cell
     have fa := Ba.free
     have la_W6 := Ba.lt
     have cb := Bb.cell
     have fb := Bb.free
     have lb_W6 := Bb.lt
     have co := Bo.cell
     have fo := Bo.free
     have lo_W6 := Bo.lt
     have cw := Bw.cell
     have fw := Bw.free
     have lw_W6 := Bw.lt
     have cx := Bx.cell
     have fx := Bx.free
     have lx_W6 := Bx.lt
     have cm := Bm.cell
     have fm := Bm.free
     have lm_W6 := Bm.lt
     have cl1 := Bl1.cell
     have fl1 := Bl1.free
     have ll1_W6 := Bl1.lt
     have kaW6 : Acc w W6 := by
       refine Acc.call ?_ hb
       (repeat' (first | (with_reducible first | assumption | exact Acc.refl _ | refine Acc.alloc ?_ _ | refine Acc.setCell ?_ ?_ _) | (refine leB ?_; omega)))
     clear hb
     go_wp2_with fail
     obtain ⟨⟨d1, d2, d3⟩, hv⟩ : ∃ o, partsR (jpowF m1 m2 m3 n1 n2 n3) = o := ⟨_, rfl⟩
     obtain ⟨kd, hk⟩ : ∃ k, okR (jpowF m1 m2 m3 n1 n2 n3) = k := ⟨_, rfl⟩
     obtain ⟨hd1, hd2, hd3⟩ := parts_i64 (fun _ _ _ h => jpow_ok h) hv
     have HV := Lib.hid hv
     have HK := Lib.hid hk
     clear hv hk
     refine (gave_any HV.out HK.out (implJPower_any m1 m2 m3 n1 n2 n3 hm1 hm2 hm3 hn1 hn2 hn3 _ (HL.out _ (by repeat' (first | (with_reducible first | assumption | exact Acc.refl _ | refine Acc.alloc ?_ _ | refine Acc.setCell ?_ ?_ _) | (refine leB ?_; omega)))))).mono ?_
     rintro e W7 ⟨rfl, hb⟩
     obtain ⟨Ba, Bb, Bo, Bw, Bx, Bm, Bl1, Bc1⟩ : Blk W7 (W0.heap.size) [.int .i64 x1, .int .i64 x2, .int .i64 x3, .int .i64 y1, .int .i64 y2, .int .i64 y3] ∧ Blk W7 (W0.heap.size + 1) [.int .i64 a1, .int .i64 a2, .int .i64 a3, .int .i64 b1, .int .i64 b2, .int .i64 b3] ∧ Blk W7 (W1.heap.size) [.int .i64 u1, .int .i64 u2, .int .i64 u3, .int .i64 v1, .int .i64 v2, .int .i64 v3] ∧ Blk W7 (W2.heap.size) [.int .i64 u1, .int .i64 u2, .int .i64 u3, .int .i64 v1, .int .i64 v2, .int .i64 v3] ∧ Blk W7 (W3.heap.size) [.int .i64 u1, .int .i64 u2, .int .i64 u3, .int .i64 v1, .int .i64 v2, .int .i64 v3] ∧ Blk W7 (W4.heap.size) [.int .i64 (-a1), .int .i64 (-a2), .int .i64 a3, .int .i64 (-b1), .int .i64 (-b2), .int .i64 b3] ∧ Blk W7 (W5.heap.size) [.int .i64 m1, .int .i64 m2, .int .i64 m3, .int .i64 n1, .int .i64 n2, .int .i64 n3] ∧ Blk W7 (W6.heap.size) [.int .i64 0, .int .i64 0, .int .i64 0] := by
       refine ⟨?_, ?_, ?_, ?_, ?_, ?_, ?_, ?_⟩ <;> refine Blk.keep hb ?_ <;> (repeat' (first | (with_reducible first | assumption | apply Blk.set | (refine Blk.new ?_; focus (first | rfl | (simp; done))) | refine Blk.alloc ?_ _ | refine Blk.other ?_ ?_ _) | exact eqL rfl | (refine neB ?_; omega)))
     have ca := Ba.cell
     have fa := Ba.free
     have la_W7 := Ba.lt
     have cb := Bb.cell
     have fb := Bb.free
     have lb_W7 := Bb.lt
     have co := Bo.cell
     have fo := Bo.free
     have lo_W7 := Bo.lt
     have cw := Bw.cell
     have fw := Bw.free
     have lw_W7 := Bw.lt
     have cx := Bx.cell
     have fx := Bx.free
     have lx_W7 := Bx.lt
     have cm := Bm.cell
     have fm := Bm.free
     have lm_W7 := Bm.lt
     have cl1 := Bl1.cell
     have fl1 := Bl1.free
     have ll1_W7 := Bl1.lt
     have cc1 := Bc1.cell
     have fc1 := Bc1.free
     have lc1_W7 := Bc1.lt
     have kaW7 : Acc w W7 := by
       refine Acc.call ?_ hb
       (repeat' (first | (with_reducible first | assumption | exact Acc.refl _ | refine Acc.alloc ?_ _ | refine Acc.setCell ?_ ?_ _) | (refine leB ?_; omega)))
     clear hb
     go_wp2_with fail
     obtain ⟨⟨e1, e2, e3⟩, hv⟩ : ∃ o, partsR (jpowF x1 x2 x3 y1 y2 y3) = o := ⟨_, rfl⟩
     obtain ⟨ke, hk⟩ : ∃ k, okR (jpowF x1 x2 x3 y1 y2 y3) = k := ⟨_, rfl⟩
     obtain ⟨he1, he2, he3⟩ := parts_i64 (fun _ _ _ h => jpow_ok h) hv
     have HV := Lib.hid hv
     have HK := Lib.hid hk
     clear hv hk
     refine (gave_any HV.out HK.out (implJPower_any x1 x2 x3 y1 y2 y3 hx1 hx2 hx3 hy1 hy2 hy3 _ (HL.out _ (by repeat' (first | (with_reducible first | assumption | exact Acc.refl _ | refine Acc.alloc ?_ _ | refine Acc.setCell ?_ ?_ _) | (refine leB ?_; omega)))))).mono ?_
     rintro e W8 ⟨rfl, hb⟩
     obtain ⟨Ba, Bb, Bo, Bw, Bx, Bm, Bl1, Bc1, Bd⟩ : Blk W8 (W0.heap.size) [.int .i64 x1, .int .i64 x2, .int .i64 x3, .int .i64 y1, .int .i64 y2, .int .i64 y3] ∧ Blk W8 (W0.heap.size + 1) [.int .i64 a1, .int .i64 a2, .int .i64 a3, .int .i64 b1, .int .i64 b2, .int .i64 b3] ∧ Blk W8 (W1.heap.size) [.int .i64 u1, .int .i64 u2, .int .i64 u3, .int .i64 v1, .int .i64 v2, .int .i64 v3] ∧ Blk W8 (W2.heap.size) [.int .i64 u1, .int .i64 u2, .int .i64 u3, .int .i64 v1, .int .i64 v2, .int .i64 v3] ∧ Blk W8 (W3.heap.size) [.int .i64 u1, .int .i64 u2, .int .i64 u3, .int .i64 v1, .int .i64 v2, .int .i64 v3] ∧ Blk W8 (W4.heap.size) [.int .i64 (-a1), .int .i64 (-a2), .int .i64 a3, .int .i64 (-b1), .int .i64 (-b2), .int .i64 b3] ∧ Blk W8 (W5.heap.size) [.int .i64 m1, .int .i64 m2, .int .i64 m3, .int .i64 n1, .int .i64 n2, .int .i64 n3] ∧ Blk W8 (W6.heap.size) [.int .i64 0, .int .i64 0, .int .i64 0] ∧ Blk W8 (W7.heap.size) [.int .i64 d1, .int .i64 d2, .int .i64 d3] := by
       refine ⟨?_, ?_, ?_, ?_, ?_, ?_, ?_, ?_, ?_⟩ <;> refine Blk.keep hb ?_ <;> (repeat' (first | (with_reducible first | assumption | apply Blk.set | (refine Blk.new ?_; focus (first | rfl | (simp; done))) | refine Blk.alloc ?_ _ | refine Blk.other ?_ ?_ _) | exact eqL rfl | (refine neB ?_; omega)))
     have ca := Ba.cell
     have fa := Ba.free
     have la_W8 := Ba.lt
     have cb := Bb.cell
     have fb := Bb.free
     have lb_W8 := Bb.lt
     have co := Bo.cell
     have fo := Bo.free
     have lo_W8 := Bo.lt
     have cw := Bw.cell
     have fw := Bw.free
     have lw_W8 := Bw.lt
     have cx := Bx.cell
     have fx := Bx.free
     have lx_W8 := Bx.lt
     have cm := Bm.cell
     have fm := Bm.free
     have lm_W8 := Bm.lt
     have cl1 := Bl1.cell
     have fl1 := Bl1.free
     have ll1_W8 := Bl1.lt
     have cc1 := Bc1.cell
     have fc1 := Bc1.free
     have lc1_W8 := Bc1.lt
     have cd := Bd.cell
     have fd := Bd.free
     have ld_W8 := Bd.lt
     have kaW8 : Acc w W8 := by
       refine Acc.call ?_ hb
       (repeat' (first | (with_reducible first | assumption | exact Acc.refl _ | refine Acc.alloc ?_ _ | refine Acc.setCell ?_ ?_ _) | (refine leB ?_; omega)))
     clear hb
     go_wp2_with fail
     obtain ⟨⟨f1, f2, f3⟩, hv⟩ : ∃ o, partsR (jpowF a1 a2 a3 b1 b2 b3) = o := ⟨_, rfl⟩
     obtain ⟨kf, hk⟩ : ∃ k, okR (jpowF a1 a2 a3 b1 b2 b3) = k := ⟨_, rfl⟩
     obtain ⟨hf1, hf2, hf3⟩ := parts_i64 (fun _ _ _ h => jpow_ok h) hv
     have HV := Lib.hid hv
     have HK := Lib.hid hk
     clear hv hk
     refine (gave_any HV.out HK.out (implJPower_any a1 a2 a3 b1 b2 b3 ha1 ha2 ha3 hb1 hb2 hb3 _ (HL.out _ (by repeat' (first | (with_reducible first | assumption | exact Acc.refl _ | refine Acc.alloc ?_ _ | refine Acc.setCell ?_ ?_ _) | (refine leB ?_; omega)))))).mono ?_
     rintro e W9 ⟨rfl, hb⟩
     obtain ⟨Ba, Bb, Bo, Bw, Bx, Bm, Bl1, Bc1, Bd, Be⟩ : Blk W9 (W0.heap.size) [.int .i64 x1, .int .i64 x2, .int .i64 x3, .int .i64 y1, .int .i64 y2, .int .i64 y3] ∧ Blk W9 (W0.heap.size + 1) [.int .i64 a1, .int .i64 a2, .int .i64 a3, .int .i64 b1, .int .i64 b2, .int .i64 b3] ∧ Blk W9 (W1.heap.size) [.int .i64 u1, .int .i64 u2, .int .i64 u3, .int .i64 v1, .int .i64 v2, .int .i64 v3] ∧ Blk W9 (W2.heap.size) [.int .i64 u1, .int .i64 u2, .int .i64 u3, .int .i64 v1, .int .i64 v2, .int .i64 v3] ∧ Blk W9 (W3.heap.size) [.int .i64 u1, .int .i64 u2, .int .i64 u3, .int .i64 v1, .int .i64 v2, .int .i64 v3] ∧ Blk W9 (W4.heap.size) [.int .i64 (-a1), .int .i64 (-a2), .int .i64 a3, .int .i64 (-b1), .int .i64 (-b2), .int .i64 b3] ∧ Blk W9 (W5.heap.size) [.int .i64 m1, .int .i64 m2, .int .i64 m3, .int .i64 n1, .int .i64 n2, .int .i64 n3] ∧ Blk W9 (W6.heap.size) [.int .i64 0, .int .i64 0, .int .i64 0] ∧ Blk W9 (W7.heap.size) [.int .i64 d1, .int .i64 d2, .int .i64 d3] ∧ Blk W9 (W8.heap.size) [.int .i64 e1, .int .i64 e2, .int .i64 e3] := by
       refine ⟨?_, ?_, ?_, ?_, ?_, ?_, ?_, ?_, ?_, ?_⟩ <;> refine Blk.keep hb ?_ <;> (repeat' (first | (with_reducible first | assumption | apply Blk.set | (refine Blk.new ?_; focus (first | rfl | (simp; done))) | refine Blk.alloc ?_ _ | refine Blk.other ?_ ?_ _) | exact eqL rfl | (refine neB ?_; omega)))
     have ca := Ba.cell
     have fa := Ba.free
     have la_W9 := Ba.lt
     have cb := Bb.cell
     have fb := Bb.free
     have lb_W9 := Bb.lt
     have co := Bo.cell
     have fo := Bo.free
     have lo_W9 := Bo.lt
     have cw := Bw.cell
     have fw := Bw.free
     have lw_W9 := Bw.lt
     have cx := Bx.cell
     have fx := Bx.free
     have lx_W9 := Bx.lt
     have cm := Bm.cell
     have fm := Bm.free
     have lm_W9 := Bm.lt
     have cl1 := Bl1.cell
     have fl1 := Bl1.free
     have ll1_W9 := Bl1.lt
     have cc1 := Bc1.cell
     have fc1 := Bc1.free
     have lc1_W9 := Bc1.lt
     have cd := Bd.cell
     have fd := Bd.free
     have ld_W9 := Bd.lt
     have ce := Be.cell
     have fe := Be.free
     have le_W9 := Be.lt
     have kaW9 : Acc w W9 := by
       refine Acc.call ?_ hb
       (repeat' (first | (with_reducible first | assumption | exact Acc.refl _ | refine Acc.alloc ?_ _ | refine Acc.setCell ?_ ?_ _) | (refine leB ?_; omega)))
     clear hb
     go_wp2_with fail
     obtain ⟨⟨g1, g2, g3⟩, hv⟩ : ∃ o, partsR (sumF 1 e1 e2 e3 f1 f2 f3) = o := ⟨_, rfl⟩
     obtain ⟨kg, hk⟩ : ∃ k, okR (sumF 1 e1 e2 e3 f1 f2 f3) = k := ⟨_, rfl⟩
     obtain ⟨hg1, hg2, hg3⟩ := parts_i64 (fun _ _ _ h => sum_ok h) hv
     have HV := Lib.hid hv
     have HK := Lib.hid hk
     clear hv hk
     refine (gave_any HV.out HK.out (implAdd_any e1 e2 e3 f1 f2 f3 he1 he2 he3 hf1 hf2 hf3 _ (HL.out _ (by repeat' (first | (with_reducible first | assumption | exact Acc.refl _ | refine Acc.alloc ?_ _ | refine Acc.setCell ?_ ?_ _) | (refine leB ?_; omega)))))).mono ?_
     rintro e W10 ⟨rfl, hb⟩
     obtain ⟨Ba, Bb, Bo, Bw, Bx, Bm, Bl1, Bc1, Bd, Be, Bf⟩ : Blk W10 (W0.heap.size) [.int .i64 x1, .int .i64 x2, .int .i64 x3, .int .i64 y1, .int .i64 y2, .int .i64 y3] ∧ Blk W10 (W0.heap.size + 1) [.int .i64 a1, .int .i64 a2, .int .i64 a3, .int .i64 b1, .int .i64 b2, .int .i64 b3] ∧ Blk W10 (W1.heap.size) [.int .i64 u1, .int .i64 u2, .int .i64 u3, .int .i64 v1, .int .i64 v2, .int .i64 v3] ∧ Blk W10 (W2.heap.size) [.int .i64 u1, .int .i64 u2, .int .i64 u3, .int .i64 v1, .int .i64 v2, .int .i64 v3] ∧ Blk W10 (W3.heap.size) [.int .i64 u1, .int .i64 u2, .int .i64 u3, .int .i64 v1, .int .i64 v2, .int .i64 v3] ∧ Blk W10 (W4.heap.size) [.int .i64 (-a1), .int .i64 (-a2), .int .i64 a3, .int .i64 (-b1), .int .i64 (-b2), .int .i64 b3] ∧ Blk W10 (W5.heap.size) [.int .i64 m1, .int .i64 m2, .int .i64 m3, .int .i64 n1, .int .i64 n2, .int .i64 n3] ∧ Blk W10 (W6.heap.size) [.int .i64 0, .int .i64 0, .int .i64 0] ∧ Blk W10 (W7.heap.size) [.int .i64 d1, .int .i64 d2, .int .i64 d3] ∧ Blk W10 (W8.heap.size) [.int .i64 e1, .int .i64 e2, .int .i64 e3] ∧ Blk W10 (W9.heap.size) [.int .i64 f1, .int .i64 f2, .int .i64 f3] := by
       refine ⟨?_, ?_, ?_, ?_, ?_, ?_, ?_, ?_, ?_, ?_, ?_⟩ <;> refine Blk.keep hb ?_ <;> (repeat' (first | (with_reducible first | assumption | apply Blk.set | (refine Blk.new ?_; focus (first | rfl | (simp; done))) | refine Blk.alloc ?_ _ | refine Blk.other ?_ ?_ _) | exact eqL rfl | (refine neB ?_; omega)))
     have ca := Ba.cell
     have fa := Ba.free
     have la_W10 := Ba.lt
     have cb := Bb.cell
     have fb := Bb.free
     have lb_W10 := Bb.lt
     have co := Bo.cell
     have fo := Bo.free
     have lo_W10 := Bo.lt
     have cw := Bw.cell
     have fw := Bw.free
     have lw_W10 := Bw.lt
     have cx := Bx.cell
     have fx := Bx.free
     have lx_W10 := Bx.lt
     have cm := Bm.cell
     have fm := Bm.free
     have lm_W10 := Bm.lt
     have cl1 := Bl1.cell
     have fl1 := Bl1.free
     have ll1_W10 := Bl1.lt
     have cc1 := Bc1.cell
     have fc1 := Bc1.free
     have lc1_W10 := Bc1.lt
     have cd := Bd.cell
     have fd := Bd.free
     have ld_W10 := Bd.lt
     have ce := Be.cell
     have fe := Be.free
     have le_W10 := Be.lt
     have cf := Bf.cell
     have ff := Bf.free
     have lf_W10 := Bf.lt
     have kaW10 : Acc w W10 := by
       refine Acc.call ?_ hb
       (repeat' (first | (with_reducible first | assumption | exact Acc.refl _ | refine Acc.alloc ?_ _ | refine Acc.setCell ?_ ?_ _) | (refine leB ?_; omega)))
     clear hb
     go_wp2_with fail
     obtain ⟨⟨t1, t2, t3⟩, hv⟩ : ∃ o, partsR (sumF 1 g1 g2 g3 g1 g2 g3) = o := ⟨_, rfl⟩
     obtain ⟨kt, hk⟩ : ∃ k, okR (sumF 1 g1 g2 g3 g1 g2 g3) = k := ⟨_, rfl⟩
     obtain ⟨ht1, ht2, ht3⟩ := parts_i64 (fun _ _ _ h => sum_ok h) hv
     have HV := Lib.hid hv
     have HK := Lib.hid hk
     clear hv hk
     refine (gave_any HV.out HK.out (implAdd_any g1 g2 g3 g1 g2 g3 hg1 hg2 hg3 hg1 hg2 hg3 _ (HL.out _ (by repeat' (first | (with_reducible first | assumption | exact Acc.refl _ | refine Acc.alloc ?_ _ | refine Acc.setCell ?_ ?_ _) | (refine leB ?_; omega)))))).mono ?_
     rintro e W11 ⟨rfl, hb⟩
     obtain ⟨Ba, Bb, Bo, Bw, Bx, Bm, Bl1, Bc1, Bd, Be, Bf, Bg⟩ : Blk W11 (W0.heap.size) [.int .i64 x1, .int .i64 x2, .int .i64 x3, .int .i64 y1, .int .i64 y2, .int .i64 y3] ∧ Blk W11 (W0.heap.size + 1) [.int .i64 a1, .int .i64 a2, .int .i64 a3, .int .i64 b1, .int .i64 b2, .int .i64 b3] ∧ Blk W11 (W1.heap.size) [.int .i64 u1, .int .i64 u2, .int .i64 u3, .int .i64 v1, .int .i64 v2, .int .i64 v3] ∧ Blk W11 (W2.heap.size) [.int .i64 u1, .int .i64 u2, .int .i64 u3, .int .i64 v1, .int .i64 v2, .int .i64 v3] ∧ Blk W11 (W3.heap.size) [.int .i64 u1, .int .i64 u2, .int .i64 u3, .int .i64 v1, .int .i64 v2, .int .i64 v3] ∧ Blk W11 (W4.heap.size) [.int .i64 (-a1), .int .i64 (-a2), .int .i64 a3, .int .i64 (-b1), .int .i64 (-b2), .int .i64 b3] ∧ Blk W11 (W5.heap.size) [.int .i64 m1, .int .i64 m2, .int .i64 m3, .int .i64 n1, .int .i64 n2, .int .i64 n3] ∧ Blk W11 (W6.heap.size) [.int .i64 0, .int .i64 0, .int .i64 0] ∧ Blk W11 (W7.heap.size) [.int .i64 d1, .int .i64 d2, .int .i64 d3] ∧ Blk W11 (W8.heap.size) [.int .i64 e1, .int .i64 e2, .int .i64 e3] ∧ Blk W11 (W9.heap.size) [.int .i64 f1, .int .i64 f2, .int .i64 f3] ∧ Blk W11 (W10.heap.size) [.int .i64 g1, .int .i64 g2, .int .i64 g3] := by
       refine ⟨?_, ?_, ?_, ?_, ?_, ?_, ?_, ?_, ?_, ?_, ?_, ?_⟩ <;> refine Blk.keep hb ?_ <;> (repeat' (first | (with_reducible first | assumption | apply Blk.set | (refine Blk.new ?_; focus (first | rfl | (simp; done))) | refine Blk.alloc ?_ _ | refine Blk.other ?_ ?_ _) | exact eqL rfl | (refine neB ?_; omega)))
     have ca := Ba.cell
     have fa := Ba.free
     have la_W11 := Ba.lt
     have cb := Bb.cell
     have fb := Bb.free
     have lb_W11 := Bb.lt
     have co := Bo.cell
     have fo := Bo.free
     have lo_W11 := Bo.lt
     have cw := Bw.cell
     have fw := Bw.free
     have lw_W11 := Bw.lt
     have cx := Bx.cell
     have fx := Bx.free
     have lx_W11 := Bx.lt
     have cm := Bm.cell
     have fm := Bm.free
     have lm_W11 := Bm.lt
     have cl1 := Bl1.cell
     have fl1 := Bl1.free
     have ll1_W11 := Bl1.lt
     have cc1 := Bc1.cell
     have fc1 := Bc1.free
     have lc1_W11 := Bc1.lt
     have cd := Bd.cell
     have fd := Bd.free
     have ld_W11 := Bd.lt
     have ce := Be.cell
     have fe := Be.free
     have le_W11 := Be.lt
     have cf := Bf.cell
     have ff := Bf.free
     have lf_W11 := Bf.lt
     have cg := Bg.cell
     have fg := Bg.free
     have lg_W11 := Bg.lt
     have kaW11 : Acc w W11 := by
       refine Acc.call ?_ hb
       (repeat' (first | (with_reducible first | assumption | exact Acc.refl _ | refine Acc.alloc ?_ _ | refine Acc.setCell ?_ ?_ _) | (refine leB ?_; omega)))
     clear hb
     go_wp2_with fail
     obtain ⟨⟨s1, s2, s3⟩, hv⟩ : ∃ o, partsR (sumF 1 0 0 0 d1 d2 d3) = o := ⟨_, rfl⟩
     obtain ⟨ks, hk⟩ : ∃ k, okR (sumF 1 0 0 0 d1 d2 d3) = k := ⟨_, rfl⟩
     obtain ⟨hs1, hs2, hs3⟩ := parts_i64 (fun _ _ _ h => sum_ok h) hv
     have HV := Lib.hid hv
     have HK := Lib.hid hk
     clear hv hk
     refine (gave_any HV.out HK.out (implAdd_any 0 0 0 d1 d2 d3 i64_0 i64_0 i64_0 hd1 hd2 hd3 _ (HL.out _ (by repeat' (first | (with_reducible first | assumption | exact Acc.refl _ | refine Acc.alloc ?_ _ | refine Acc.setCell ?_ ?_ _) | (refine leB ?_; omega)))))).mono ?_
     rintro e W12 ⟨rfl, hb⟩
     obtain ⟨Ba, Bb, Bo, Bw, Bx, Bm, Bl1, Bc1, Bd, Be, Bf, Bg, Bt⟩ : Blk W12 (W0.heap.size) [.int .i64 x1, .int .i64 x2, .int .i64 x3, .int .i64 y1, .int .i64 y2, .int .i64 y3] ∧ Blk W12 (W0.heap.size + 1) [.int .i64 a1, .int .i64 a2, .int .i64 a3, .int .i64 b1, .int .i64 b2, .int .i64 b3] ∧ Blk W12 (W1.heap.size) [.int .i64 u1, .int .i64 u2, .int .i64 u3, .int .i64 v1, .int .i64 v2, .int .i64 v3] ∧ Blk W12 (W2.heap.size) [.int .i64 u1, .int .i64 u2, .int .i64 u3, .int .i64 v1, .int .i64 v2, .int .i64 v3] ∧ Blk W12 (W3.heap.size) [.int .i64 u1, .int .i64 u2, .int .i64 u3, .int .i64 v1, .int .i64 v2, .int .i64 v3] ∧ Blk W12 (W4.heap.size) [.int .i64 (-a1), .int .i64 (-a2), .int .i64 a3, .int .i64 (-b1), .int .i64 (-b2), .int .i64 b3] ∧ Blk W12 (W5.heap.size) [.int .i64 m1, .int .i64 m2, .int .i64 m3, .int .i64 n1, .int .i64 n2, .int .i64 n3] ∧ Blk W12 (W6.heap.size) [.int .i64 0, .int .i64 0, .int .i64 0] ∧ Blk W12 (W7.heap.size) [.int .i64 d1, .int .i64 d2, .int .i64 d3] ∧ Blk W12 (W8.heap.size) [.int .i64 e1, .int .i64 e2, .int .i64 e3] ∧ Blk W12 (W9.heap.size) [.int .i64 f1, .int .i64 f2, .int .i64 f3] ∧ Blk W12 (W10.heap.size) [.int .i64 g1, .int .i64 g2, .int .i64 g3] ∧ Blk W12 (W11.heap.size) [.int .i64 t1, .int .i64 t2, .int .i64 t3] := by
       refine ⟨?_, ?_, ?_, ?_, ?_, ?_, ?_, ?_, ?_, ?_, ?_, ?_, ?_⟩ <;> refine Blk.keep hb ?_ <;> (repeat' (first | (with_reducible first | assumption | apply Blk.set | (refine Blk.new ?_; focus (first | rfl | (simp; done))) | refine Blk.alloc ?_ _ | refine Blk.other ?_ ?_ _) | exact eqL rfl | (refine neB ?_; omega)))
     have ca := Ba.cell
     have fa := Ba.free
     have la_W12 := Ba.lt
     have cb := Bb.cell
     have fb := Bb.free
     have lb_W12 := Bb.lt
     have co := Bo.cell
     have fo := Bo.free
     have lo_W12 := Bo.lt
     have cw := Bw.cell
     have fw := Bw.free
     have lw_W12 := Bw.lt
     have cx := Bx.cell
     have fx := Bx.free
     have lx_W12 := Bx.lt
     have cm := Bm.cell
     have fm := Bm.free
     have lm_W12 := Bm.lt
     have cl1 := Bl1.cell
     have fl1 := Bl1.free
     have ll1_W12 := Bl1.lt
     have cc1 := Bc1.cell
     have fc1 := Bc1.free
     have lc1_W12 := Bc1.lt
     have cd := Bd.cell
     have fd := Bd.free
     have ld_W12 := Bd.lt
     have ce := Be.cell
     have fe := Be.free
     have le_W12 := Be.lt
     have cf := Bf.cell
     have ff := Bf.free
     have lf_W12 := Bf.lt
     have cg := Bg.cell
     have fg := Bg.free
     have lg_W12 := Bg.lt
     have ct := Bt.cell
     have ft := Bt.free
     have lt_W12 := Bt.lt
     have kaW12 : Acc w W12 := by
       refine Acc.call ?_ hb
       (repeat' (first | (with_reducible first | assumption | exact Acc.refl _ | refine Acc.alloc ?_ _ | refine Acc.setCell ?_ ?_ _) | (refine leB ?_; omega)))
     clear hb
     go_wp2_with fail
     all_goals
       go_ret
       refine ⟨by first | rfl | (simp [*]; done) | (simp [go_sem, *]; done), ?_⟩
       show Acc w _
       (repeat' (first | (with_reducible first | assumption | exact Acc.refl _ | refine Acc.alloc ?_ _ | refine Acc.setCell ?_ ?_ _) | (refine leB ?_; omega)))
    | some v =>
     obtain ⟨c1, c2, c3⟩ := v
     obtain ⟨hc1, hc2, hc3⟩ := okF_i64 (jpow_ok ht)
     have HC1 := Lib.hid ht
     clear ht
     refine (gave_some HC1.out (implJPower_any u1 u2 u3 v1 v2 v3 hu1 hu2 hu3 hv1 hv2 hv3 _ (HL.out _ (by repeat' (first | (with_reducible first | assumption | exact Acc.refl _ | refine Acc.alloc ?_ _ | refine Acc.setCell ?_ ?_ _) | (refine leB ?_; omega)))))).mono ?_
     rintro e W6 ⟨rfl, hb⟩
     obtain ⟨Ba, Bb, Bo, Bw, Bx, Bm, Bl1⟩ : Blk W6 (W0.heap.size) [.int .i64 x1, .int .i64 x2, .int .i64 x3, .int .i64 y1, .int .i64 y2, .int .i64 y3] ∧ Blk W6 (W0.heap.size + 1) [.int .i64 a1, .int .i64 a2, .int .i64 a3, .int .i64 b1, .int .i64 b2, .int .i64 b3] ∧ Blk W6 (W1.heap.size) [.int .i64 u1, .int .i64 u2, .int .i64 u3, .int .i64 v1, .int .i64 v2, .int .i64 v3] ∧ Blk W6 (W2.heap.size) [.int .i64 u1, .int .i64 u2, .int .i64 u3, .int .i64 v1, .int .i64 v2, .int .i64 v3] ∧ Blk W6 (W3.heap.size) [.int .i64 u1, .int .i64 u2, .int .i64 u3, .int .i64 v1, .int .i64 v2, .int .i64 v3] ∧ Blk W6 (W4.heap.size) [.int .i64 (-a1), .int .i64 (-a2), .int .i64 a3, .int .i64 (-b1), .int .i64 (-b2), .int .i64 b3] ∧ Blk W6 (W5.heap.size) [.int .i64 m1, .int .i64 m2, .int .i64 m3, .int .i64 n1, .int .i64 n2, .int .i64 n3] := by
       refine ⟨?_, ?_, ?_, ?_, ?_, ?_, ?_⟩ <;> refine Blk.keep hb ?_ <;> (repeat' (first | (with_reducible first | assumption | apply Blk.set | (refine Blk.new ?_; focus (first | rfl | (simp; done))) | refine Blk.alloc ?_ _ | refine Blk.other ?_ ?_ _) | exact eqL rfl | (refine neB ?_; omega)))
     have ca := Ba.cell
     have fa := Ba.free
     have la_W6 := Ba.lt
     have cb := Bb.cell
     have fb := Bb.free
     have lb_W6 := Bb.lt
     have co := Bo.cell
     have fo := Bo.free
     have lo_W6 := Bo.lt
     have cw := Bw.cell
     have fw := Bw.free
     have lw_W6 := Bw.lt
     have cx := Bx.cell
     have fx := Bx.free
     have lx_W6 := Bx.lt
     have cm := Bm.cell
     have fm := Bm.free
     have lm_W6 := Bm.lt
     have cl1 := Bl1.cell
     have fl1 := Bl1.free
     have ll1_W6 := Bl1.lt
     have kaW6 : Acc w W6 := by
       refine Acc.call ?_ hb
       (repeat' (first | (with_reducible first | assumption | exact Acc.refl _ | refine Acc.alloc ?_ _ | refine Acc.setCell ?_ ?_ _) | (refine leB ?_; omega)))
     clear hb
     go_wp2_with fail
     cases ht : jpowF m1 m2 m3 n1 n2 n3 with
     | none =>
      have HD := Lib.hid ht
      clear ht
      refine (gave_none HD.out (implJPower_any m1 m2 m3 n1 n2 n3 hm1 hm2 hm3 hn1 hn2 hn3 _ (HL.out _ (by repeat' (first | (with_reducible first | assumption | exact Acc.refl _ | refine Acc.alloc ?_ _ | refine Acc.setCell ?_ ?_ _) | (refine leB ?_; omega)))))).mono ?_
      rintro e W7 ⟨rfl, hb⟩
      obtain ⟨Ba, Bb, Bo, Bw, Bx, Bm, Bl1, Bc1⟩ : Blk W7 (W0.heap.size) [.int .i64 x1, .int .i64 x2, .int .i64 x3, .int .i64 y1, .int .i64 y2, .int .i64 y3] ∧ Blk W7 (W0.heap.size + 1) [.int .i64 a1, .int .i64 a2, .int .i64 a3, .int .i64 b1, .int .i64 b2, .int .i64 b3] ∧ Blk W7 (W1.heap.size) [.int .i64 u1, .int .i64 u2, .int .i64 u3, .int .i64 v1, .int .i64 v2, .int .i64 v3] ∧ Blk W7 (W2.heap.size) [.int .i64 u1, .int .i64 u2, .int .i64 u3, .int .i64 v1, .int .i64 v2, .int .i64 v3] ∧ Blk W7 (W3.heap.size) [.int .i64 u1, .int .i64 u2, .int .i64 u3, .int .i64 v1, .int .i64 v2, .int .i64 v3] ∧ Blk W7 (W4.heap.size) [.int .i64 (-a1), .int .i64 (-a2), .int .i64 a3, .int .i64 (-b1), .int .i64 (-b2), .int .i64 b3] ∧ Blk W7 (W5.heap.size) [.int .i64 m1, .int .i64 m2, .int .i64 m3, .int .i64 n1, .int .i64 n2, .int .i64 n3] ∧ Blk W7 (W6.heap.size) [.int .i64 c1, .int .i64 c2, .int .i64 c3] := by
        refine ⟨?_, ?_, ?_, ?_, ?_, ?_, ?_, ?_⟩ <;> refine Blk.keep hb ?_ <;> (repeat' (first | (with_reducible first | assumption | apply Blk.set | (refine Blk.new ?_; focus (first | rfl | (simp; done))) | refine Blk.alloc ?_ _ | refine Blk.other ?_ ?_ _) | exact eqL rfl | (refine neB ?_; omega)))
      have ca := Ba.cell
      have fa := Ba.free
      have la_W7 := Ba.lt
      have cb := Bb.cell
      have fb := Bb.free
      have lb_W7 := Bb.lt
      have co := Bo.cell
      have fo := Bo.free
      have lo_W7 := Bo.lt
      have cw := Bw.cell
      have fw := Bw.free
      have lw_W7 := Bw.lt
      have cx := Bx.cell
      have fx := Bx.free
      have lx_W7 := Bx.lt
      have cm := Bm.cell
      have fm := Bm.free
      have lm_W7 := Bm.lt
      have cl1 := Bl1.cell
      have fl1 := Bl1.free
      have ll1_W7 := Bl1.lt
      have cc1 := Bc1.cell
      have fc1 := Bc1.free
      have lc1_W7 := Bc1.lt
      have kaW7 : Acc w W7 := by
        refine Acc.call ?_ hb
        (repeat' (first | (with_reducible first | assumption | exact Acc.refl _ | refine Acc.alloc ?_ _ | refine Acc.setCell ?_ ?_ _) | (refine leB ?_; omega)))
      clear hb
      go_wp2_with fail
      obtain ⟨⟨e1, e2, e3⟩, hv⟩ : ∃ o, partsR (jpowF x1 x2 x3 y1 y2 y3) = o := ⟨_, rfl⟩
      obtain ⟨ke, hk⟩ : ∃ k, okR (jpowF x1 x2 x3 y1 y2 y3) = k := ⟨_, rfl⟩
      obtain ⟨he1, he2, he3⟩ := parts_i64 (fun _ _ _ h => jpow_ok h) hv
      have HV := Lib.hid hv
      have HK := Lib.hid hk
      clear hv hk
      refine (gave_any HV.out HK.out (implJPower_any x1 x2 x3 y1 y2 y3 hx1 hx2 hx3 hy1 hy2 hy3 _ (HL.out _ (by repeat' (first | (with_reducible first | assumption | exact Acc.refl _ | refine Acc.alloc ?_ _ | refine Acc.setCell ?_ ?_ _) | (refine leB ?_; omega)))))).mono ?_
      rintro e W8 ⟨rfl, hb⟩
      obtain ⟨Ba, Bb, Bo, Bw, Bx, Bm, Bl1, Bc1, Bd⟩ : Blk W8 (W0.heap.size) [.int .i64 x1, .int .i64 x2, .int .i64 x3, .int .i64 y1, .int .i64 y2, .int .i64 y3] ∧ Blk W8 (W0.heap.size + 1) [.int .i64 a1, .int .i64 a2, .int .i64 a3, .int .i64 b1, .int .i64 b2, .int .i64 b3] ∧ Blk W8 (W1.heap.size) [.int .i64 u1, .int .i64 u2, .int .i64 u3, .int .i64 v1, .int .i64 v2, .int .i64 v3] ∧ Blk W8 (W2.heap.size) [.int .i64 u1, .int .i64 u2, .int .i64 u3, .int .i64 v1, .int .i64 v2, .int .i64 v3] ∧ Blk W8 (W3.heap.size) [.int .i64 u1, .int .i64 u2, .int .i64 u3, .int .i64 v1, .int .i64 v2, .int .i64 v3] ∧ Blk W8 (W4.heap.size) [.int .i64 (-a1), .int .i64 (-a2), .int .i64 a3, .int .i64 (-b1), .int .i64 (-b2), .int .i64 b3] ∧ Blk W8 (W5.heap.size) [.int .i64 m1, .int .i64 m2, .int .i64 m3, .int .i64 n1, .int .i64 n2, .int .i64 n3] ∧ Blk W8 (W6.heap.size) [.int .i64 c1, .int .i64 c2, .int .i64 c3] ∧ Blk W8 (W7.heap.size) [.int .i64 0, .int .i64 0, .int .i64 0] := by
        refine ⟨?_, ?_, ?_, ?_, ?_, ?_, ?_, ?_, ?_⟩ <;> refine Blk.keep hb ?_ <;> (repeat' (first | (with_reducible first | assumption | apply Blk.set | (refine Blk.new ?_; focus (first | rfl | (simp; done))) | refine Blk.alloc ?_ _ | refine Blk.other ?_ ?_ _) | exact eqL rfl | (refine neB ?_; omega)))
      have ca := Ba.cell
      have fa := Ba.free
      have la_W8 := Ba.lt
      have cb := Bb.cell
      have fb := Bb.free
      have lb_W8 := Bb.lt
      have co := Bo.cell
      have fo := Bo.free
      have lo_W8 := Bo.lt
      have cw := Bw.cell
      have fw := Bw.free
      have lw_W8 := Bw.lt
      have cx := Bx.cell
      have fx := Bx.free
      have lx_W8 := Bx.lt
      have cm := Bm.cell
      have fm := Bm.free
      have lm_W8 := Bm.lt
      have cl1 := Bl1.cell
      have fl1 := Bl1.free
      have ll1_W8 := Bl1.lt
      have cc1 := Bc1.cell
      have fc1 := Bc1.free
      have lc1_W8 := Bc1.lt
      have cd := Bd.cell
      have fd := Bd.free
      have ld_W8 := Bd.lt
      have kaW8 : Acc w W8 := by
        refine Acc.call ?_ hb
        (repeat' (first | (with_reducible first | assumption | exact Acc.refl _ | refine Acc.alloc ?_ _ | refine Acc.setCell ?_ ?_ _) | (refine leB ?_; omega)))
      clear hb
      go_wp2_with fail
      obtain ⟨⟨f1, f2, f3⟩, hv⟩ : ∃ o, partsR (jpowF a1 a2 a3 b1 b2 b3) = o := ⟨_, rfl⟩
      obtain ⟨kf, hk⟩ : ∃ k, okR (jpowF a1 a2 a3 b1 b2 b3) = k := ⟨_, rfl⟩
      obtain ⟨hf1, hf2, hf3⟩ := parts_i64 (fun _ _ _ h => jpow_ok h) hv
      have HV := Lib.hid hv
      have HK := Lib.hid hk
      clear hv hk
      refine (gave_any HV.out HK.out (implJPower_any a1 a2 a3 b1 b2 b3 ha1 ha2 ha3 hb1 hb2 hb3 _ (HL.out _ (by repeat' (first | (with_reducible first | assumption | exact Acc.refl _ | refine Acc.alloc ?_ _ | refine Acc.setCell ?_ ?_ _) | (refine leB ?_; omega)))))).mono ?_
      rintro e W9 ⟨rfl, hb⟩
      obtain ⟨Ba, Bb, Bo, Bw, Bx, Bm, Bl1, Bc1, Bd, Be⟩ : Blk W9 (W0.heap.size) [.int .i64 x1, .int .i64 x2, .int .i64 x3, .int .i64 y1, .int .i64 y2, .int .i64 y3] ∧ Blk W9 (W0.heap.size + 1) [.int .i64 a1, .int .i64 a2, .int .i64 a3, .int .i64 b1, .int .i64 b2, .int .i64 b3] ∧ Blk W9 (W1.heap.size) [.int .i64 u1, .int .i64 u2, .int .i64 u3, .int .i64 v1, .int .i64 v2, .int .i64 v3] ∧ Blk W9 (W2.heap.size) [.int .i64 u1, .int .i64 u2, .int .i64 u3, .int .i64 v1, .int .i64 v2, .int .i64 v3] ∧ Blk W9 (W3.heap.size) [.int .i64 u1, .int .i64 u2, .int .i64 u3, .int .i64 v1, .int .i64 v2, .int .i64 v3] ∧ Blk W9 (W4.heap.size) [.int .i64 (-a1), .int .i64 (-a2), .int .i64 a3, .int .i64 (-b1), .int .i64 (-b2), .int .i64 b3] ∧ Blk W9 (W5.heap.size) [.int .i64 m1, .int .i64 m2, .int .i64 m3, .int .i64 n1, .int .i64 n2, .int .i64 n3] ∧ Blk W9 (W6.heap.size) [.int .i64 c1, .int .i64 c2, .int .i64 c3] ∧ Blk W9 (W7.heap.size) [.int .i64 0, .int .i64 0, .int .i64 0] ∧ Blk W9 (W8.heap.size) [.int .i64 e1, .int .i64 e2, .int .i64 e3] := by
        refine ⟨?_, ?_, ?_, ?_, ?_, ?_, ?_, ?_, ?_, ?_⟩ <;> refine Blk.keep hb ?_ <;> (repeat' (first | (with_reducible first | assumption | apply Blk.set | (refine Blk.new ?_; focus (first | rfl | (simp; done))) | refine Blk.alloc ?_ _ | refine Blk.other ?_ ?_ _) | exact eqL rfl | (refine neB ?_; omega)))
      have ca := Ba.cell
      have fa := Ba.free
      have la_W9 := Ba.lt
      have cb := Bb.cell
      have fb := Bb.free
      have lb_W9 := Bb.lt
      have co := Bo.cell
      have fo := Bo.free
      have lo_W9 := Bo.lt
      have cw := Bw.cell
      have fw := Bw.free
      have lw_W9 := Bw.lt
      have cx := Bx.cell
      have fx := Bx.free
      have lx_W9 := Bx.lt
      have cm := Bm.cell
      have fm := Bm.free
      have lm_W9 := Bm.lt
      have cl1 := Bl1.cell
      have fl1 := Bl1.free
      have ll1_W9 := Bl1.lt
      have cc1 := Bc1.cell
      have fc1 := Bc1.free
      have lc1_W9 := Bc1.lt
      have cd := Bd.cell
      have fd := Bd.free
      have ld_W9 := Bd.lt
      have ce := Be.cell
      have fe := Be.free
      have le_W9 := Be.lt
      have kaW9 : Acc w W9 := by
        refine Acc.call ?_ hb
        (repeat' (first | (with_reducible first | assumption | exact Acc.refl _ | refine Acc.alloc ?_ _ | refine Acc.setCell ?_ ?_ _) | (refine leB ?_; omega)))
      clear hb
      go_wp2_with fail
      obtain ⟨⟨g1, g2, g3⟩, hv⟩ : ∃ o, partsR (sumF 1 e1 e2 e3 f1 f2 f3) = o := ⟨_, rfl⟩
      obtain ⟨kg, hk⟩ : ∃ k, okR (sumF 1 e1 e2 e3 f1 f2 f3) = k := ⟨_, rfl⟩
      obtain ⟨hg1, hg2, hg3⟩ := parts_i64 (fun _ _ _ h => sum_ok h) hv
      have HV := Lib.hid hv
      have HK := Lib.hid hk
      clear hv hk
      refine (gave_any HV.out HK.out (implAdd_any e1 e2 e3 f1 f2 f3 he1 he2 he3 hf1 hf2 hf3 _ (HL.out _ (by repeat' (first | (with_reducible first | assumption | exact Acc.refl _ | refine Acc.alloc ?_ _ | refine Acc.setCell ?_ ?_ _) | (refine leB ?_; omega)))))).mono ?_
      rintro e W10 ⟨rfl, hb⟩
      obtain ⟨Ba, Bb, Bo, Bw, Bx, Bm, Bl1, Bc1, Bd, Be, Bf⟩ : Blk W10 (W0.heap.size) [.int .i64 x1, .int .i64 x2, .int .i64 x3, .int .i64 y1, .int .i64 y2, .int .i64 y3] ∧ Blk W10 (W0.heap.size + 1) [.int .i64 a1, .int .i64 a2, .int .i64 a3, .int .i64 b1, .int .i64 b2, .int .i64 b3] ∧ Blk W10 (W1.heap.size) [.int .i64 u1, .int .i64 u2, .int .i64 u3, .int .i64 v1, .int .i64 v2, .int .i64 v3] ∧ Blk W10 (W2.heap.size) [.int .i64 u1, .int .i64 u2, .int .i64 u3, .int .i64 v1, .int .i64 v2, .int .i64 v3] ∧ Blk W10 (W3.heap.size) [.int .i64 u1, .int .i64 u2, .int .i64 u3, .int .i64 v1, .int .i64 v2, .int .i64 v3] ∧ Blk W10 (W4.heap.size) [.int .i64 (-a1), .int .i64 (-a2), .int .i64 a3, .int .i64 (-b1), .int .i64 (-b2), .int .i64 b3] ∧ Blk W10 (W5.heap.size) [.int .i64 m1, .int .i64 m2, .int .i64 m3, .int .i64 n1, .int .i64 n2, .int .i64 n3] ∧ Blk W10 (W6.heap.size) [.int .i64 c1, .int .i64 c2, .int .i64 c3] ∧ Blk W10 (W7.heap.size) [.int .i64 0, .int .i64 0, .int .i64 0] ∧ Blk W10 (W8.heap.size) [.int .i64 e1, .int .i64 e2, .int .i64 e3] ∧ Blk W10 (W9.heap.size) [.int .i64 f1, .int .i64 f2, .int .i64 f3] := by
        refine ⟨?_, ?_, ?_, ?_, ?_, ?_, ?_, ?_, ?_, ?_, ?_⟩ <;> refine Blk.keep hb ?_ <;> (repeat' (first | (with_reducible first | assumption | apply Blk.set | (refine Blk.new ?_; focus (first | rfl | (simp; done))) | refine Blk.alloc ?_ _ | refine Blk.other ?_ ?_ _) | exact eqL rfl | (refine neB ?_; omega)))
      have ca := Ba.cell
      have fa := Ba.free
      have la_W10 := Ba.lt
      have cb := Bb.cell
      have fb := Bb.free
      have lb_W10 := Bb.lt
      have co := Bo.cell
      have fo := Bo.free
      have lo_W10 := Bo.lt
      have cw := Bw.cell
      have fw := Bw.free
      have lw_W10 := Bw.lt
      have cx := Bx.cell
      have fx := Bx.free
      have lx_W10 := Bx.lt
      have cm := Bm.cell
      have fm := Bm.free
      have lm_W10 := Bm.lt
      have cl1 := Bl1.cell
      have fl1 := Bl1.free
      have ll1_W10 := Bl1.lt
      have cc1 := Bc1.cell
      have fc1 := Bc1.free
      have lc1_W10 := Bc1.lt
      have cd := Bd.cell
      have fd := Bd.free
      have ld_W10 := Bd.lt
      have ce := Be.cell
      have fe := Be.free
      have le_W10 := Be.lt
      have cf := Bf.cell
      have ff := Bf.free
      have lf_W10 := Bf.lt
      have kaW10 : Acc w W10 := by
        refine Acc.call ?_ hb
        (repeat' (first | (with_reducible first | assumption | exact Acc.refl _ | refine Acc.alloc ?_ _ | refine Acc.setCell ?_ ?_ _) | (refine leB ?_; omega)))
      clear hb
      go_wp2_with fail
      obtain ⟨⟨t1, t2, t3⟩, hv⟩ : ∃ o, partsR (sumF 1 g1 g2 g3 g1 g2 g3) = o := ⟨_, rfl⟩
      obtain ⟨kt, hk⟩ : ∃ k, okR (sumF 1 g1 g2 g3 g1 g2 g3) = k := ⟨_, rfl⟩
      obtain ⟨ht1, ht2, ht3⟩ := parts_i64 (fun _ _ _ h => sum_ok h) hv
      have HV := Lib.hid hv
      have HK := Lib.hid hk
      clear hv hk
      refine (gave_any HV.out HK.out (implAdd_any g1 g2 g3 g1 g2 g3 hg1 hg2 hg3 hg1 hg2 hg3 _ (HL.out _ (by repeat' (first | (with_reducible first | assumption | exact Acc.refl _ | refine Acc.alloc ?_ _ | refine Acc.setCell ?_ ?_ _) | (refine leB ?_; omega)))))).mono ?_
      rintro e W11 ⟨rfl, hb⟩
      obtain ⟨Ba, Bb, Bo, Bw, Bx, Bm, Bl1, Bc1, Bd, Be, Bf, Bg⟩ : Blk W11 (W0.heap.size) [.int .i64 x1, .int .i64 x2, .int .i64 x3, .int .i64 y1, .int .i64 y2, .int .i64 y3] ∧ Blk W11 (W0.heap.size + 1) [.int .i64 a1, .int .i64 a2, .int .i64 a3, .int .i64 b1, .int .i64 b2, .int .i64 b3] ∧ Blk W11 (W1.heap.size) [.int .i64 u1, .int .i64 u2, .int .i64 u3, .int .i64 v1, .int .i64 v2, .int .i64 v3] ∧ Blk W11 (W2.heap.size) [.int .i64 u1, .int .i64 u2, .int .i64 u3, .int .i64 v1, .int .i64 v2, .int .i64 v3] ∧ Blk W11 (W3.heap.size) [.int .i64 u1, .int .i64 u2, .int .i64 u3, .int .i64 v1, .int .i64 v2, .int .i64 v3] ∧ Blk W11 (W4.heap.size) [.int .i64 (-a1), .int .i64 (-a2), .int .i64 a3, .int .i64 (-b1), .int .i64 (-b2), .int .i64 b3] ∧ Blk W11 (W5.heap.size) [.int .i64 m1, .int .i64 m2, .int .i64 m3, .int .i64 n1, .int .i64 n2, .int .i64 n3] ∧ Blk W11 (W6.heap.size) [.int .i64 c1, .int .i64 c2, .int .i64 c3] ∧ Blk W11 (W7.heap.size) [.int .i64 0, .int .i64 0, .int .i64 0] ∧ Blk W11 (W8.heap.size) [.int .i64 e1, .int .i64 e2, .int .i64 e3] ∧ Blk W11 (W9.heap.size) [.int .i64 f1, .int .i64 f2, .int .i64 f3] ∧ Blk W11 (W10.heap.size) [.int .i64 g1, .int .i64 g2, .int .i64 g3] := by
        refine ⟨?_, ?_, ?_, ?_, ?_, ?_, ?_, ?_, ?_, ?_, ?_, ?_⟩ <;> refine Blk.keep hb ?_ <;> (repeat' (first | (with_reducible first | assumption | apply Blk.set | (refine Blk.new ?_; focus (first | rfl | (simp; done))) | refine Blk.alloc ?_ _ | refine Blk.other ?_ ?_ _) | exact eqL rfl | (refine neB ?_; omega)))
      have ca := Ba.cell
      have fa := Ba.free
      have la_W11 := Ba.lt
      have cb := Bb.cell
      have fb := Bb.free
      have lb_W11 := Bb.lt
      have co := Bo.cell
      have fo := Bo.free
      have lo_W11 := Bo.lt
      have cw := Bw.cell
      have fw := Bw.free
      have lw_W11 := Bw.lt
      have cx := Bx.cell
      have fx := Bx.free
      have lx_W11 := Bx.lt
      have cm := Bm.cell
      have fm := Bm.free
      have lm_W11 := Bm.lt
      have cl1 := Bl1.cell
      have fl1 := Bl1.free
      have ll1_W11 := Bl1.lt
      have cc1 := Bc1.cell
      have fc1 := Bc1.free
      have lc1_W11 := Bc1.lt
      have cd := Bd.cell
      have fd := Bd.free
      have ld_W11 := Bd.lt
      have ce := Be.cell
      have fe := Be.free
      have le_W11 := Be.lt
      have cf := Bf.cell
      have ff := Bf.free
      have lf_W11 := Bf.lt
      have cg := Bg.cell
      have fg := Bg.free
      have lg_W11 := Bg.lt
      have kaW11 : Acc w W11 := by
        refine Acc.call ?_ hb
        (repeat' (first | (with_reducible first | assumption | exact Acc.refl _ | refine Acc.alloc ?_ _ | refine Acc.setCell ?_ ?_ _) | (refine leB ?_; omega)))
      clear hb
      go_wp2_with fail
      obtain ⟨⟨s1, s2, s3⟩, hv⟩ : ∃ o, partsR (sumF 1 c1 c2 c3 0 0 0) = o := ⟨_, rfl⟩
      obtain ⟨ks, hk⟩ : ∃ k, okR (sumF 1 c1 c2 c3 0 0 0) = k := ⟨_, rfl⟩
      obtain ⟨hs1, hs2, hs3⟩ := parts_i64 (fun _ _ _ h => sum_ok h) hv
      have HV := Lib.hid hv
      have HK := Lib.hid hk
      clear hv hk
      refine (gave_any HV.out HK.out (implAdd_any c1 c2 c3 0 0 0 hc1 hc2 hc3 i64_0 i64_0 i64_0 _ (HL.out _ (by repeat' (first | (with_reducible first | assumption | exact Acc.refl _ | refine Acc.alloc ?_ _ | refine Acc.setCell ?_ ?_ _) | (refine leB ?_; omega)))))).mono ?_
      rintro e W12 ⟨rfl, hb⟩
      obtain ⟨Ba, Bb, Bo, Bw, Bx, Bm, Bl1, Bc1, Bd, Be, Bf, Bg, Bt⟩ : Blk W12 (W0.heap.size) [.int .i64 x1, .int .i64 x2, .int .i64 x3, .int .i64 y1, .int .i64 y2, .int .i64 y3] ∧ Blk W12 (W0.heap.size + 1) [.int .i64 a1, .int .i64 a2, .int .i64 a3, .int .i64 b1, .int .i64 b2, .int .i64 b3] ∧ Blk W12 (W1.heap.size) [.int .i64 u1, .int .i64 u2, .int .i64 u3, .int .i64 v1, .int .i64 v2, .int .i64 v3] ∧ Blk W12 (W2.heap.size) [.int .i64 u1, .int .i64 u2, .int .i64 u3, .int .i64 v1, .int .i64 v2, .int .i64 v3] ∧ Blk W12 (W3.heap.size) [.int .i64 u1, .int .i64 u2, .int .i64 u3, .int .i64 v1, .int .i64 v2, .int .i64 v3] ∧ Blk W12 (W4.heap.size) [.int .i64 (-a1), .int .i64 (-a2), .int .i64 a3, .int .i64 (-b1), .int .i64 (-b2), .int .i64 b3] ∧ Blk W12 (W5.heap.size) [.int .i64 m1, .int .i64 m2, .int .i64 m3, .int .i64 n1, .int .i64 n2, .int .i64 n3] ∧ Blk W12 (W6.heap.size) [.int .i64 c1, .int .i64 c2, .int .i64 c3] ∧ Blk W12 (W7.heap.size) [.int .i64 0, .int .i64 0, .int .i64 0] ∧ Blk W12 (W8.heap.size) [.int .i64 e1, .int .i64 e2, .int .i64 e3] ∧ Blk W12 (W9.heap.size) [.int .i64 f1, .int .i64 f2, .int .i64 f3] ∧ Blk W12 (W10.heap.size) [.int .i64 g1, .int .i64 g2, .int .i64 g3] ∧ Blk W12 (W11.heap.size) [.int .i64 t1, .int .i64 t2, .int .i64 t3] := by
        refine ⟨?_, ?_, ?_, ?_, ?_, ?_, ?_, ?_, ?_, ?_, ?_, ?_, ?_⟩ <;> refine Blk.keep hb ?_ <;> (repeat' (first | (with_reducible first | assumption | apply Blk.set | (refine Blk.new ?_; focus (first | rfl | (simp; done))) | refine Blk.alloc ?_ _ | refine Blk.other ?_ ?_ _) | exact eqL rfl | (refine neB ?_; omega)))
      have ca := Ba.cell
      have fa := Ba.free
      have la_W12 := Ba.lt
      have cb := Bb.cell
      have fb := Bb.free
      have lb_W12 := Bb.lt
      have co := Bo.cell
      have fo := Bo.free
      have lo_W12 := Bo.lt
      have cw := Bw.cell
      have fw := Bw.free
      have lw_W12 := Bw.lt
      have cx := Bx.cell
      have fx := Bx.free
      have lx_W12 := Bx.lt
      have cm := Bm.cell
      have fm := Bm.free
      have lm_W12 := Bm.lt
      have cl1 := Bl1.cell
      have fl1 := Bl1.free
      have ll1_W12 := Bl1.lt
      have cc1 := Bc1.cell
      have fc1 := Bc1.free
      have lc1_W12 := Bc1.lt
      have cd := Bd.cell
      have fd := Bd.free
      have ld_W12 := Bd.lt
      have ce := Be.cell
      have fe := Be.free
      have le_W12 := Be.lt
      have cf := Bf.cell
      have ff := Bf.free
      have lf_W12 := Bf.lt
      have cg := Bg.cell
      have fg := Bg.free
      have lg_W12 := Bg.lt
      have ct := Bt.cell
      have ft := Bt.free
      have lt_W12 := Bt.lt
      have kaW12 : Acc w W12 := by
        refine Acc.call ?_ hb
        (repeat' (first | (with_reducible first | assumption | exact Acc.refl _ | refine Acc.alloc ?_ _ | refine Acc.setCell ?_ ?_ _) | (refine leB ?_; omega)))
      clear hb
      go_wp2_with fail
      all_goals
        go_ret
        refine ⟨by first | rfl | (simp [*]; done) | (simp [go_sem, *]; done), ?_⟩
        show Acc w _
        (repeat' (first | (with_reducible first | assumption | exact Acc.refl _ | refine Acc.alloc ?_ _ | refine Acc.setCell ?_ ?_ _) | (refine leB ?_; omega)))
     | some v =>
      obtain ⟨d1, d2, d3⟩ := v
      obtain ⟨hd1, hd2, hd3⟩ := okF_i64 (jpow_ok ht)
      have HD := Lib.hid ht
      clear ht
      refine (gave_some HD.out (implJPower_any m1 m2 m3 n1 n2 n3 hm1 hm2 hm3 hn1 hn2 hn3 _ (HL.out _ (by repeat' (first | (with_reducible first | assumption | exact Acc.refl _ | refine Acc.alloc ?_ _ | refine Acc.setCell ?_ ?_ _) | (refine leB ?_; omega)))))).mono ?_
      rintro e W7 ⟨rfl, hb⟩
      obtain ⟨Ba, Bb, Bo, Bw, Bx, Bm, Bl1, Bc1⟩ : Blk W7 (W0.heap.size) [.int .i64 x1, .int .i64 x2, .int .i64 x3, .int .i64 y1, .int .i64 y2, .int .i64 y3] ∧ Blk W7 (W0.heap.size + 1) [.int .i64 a1, .int .i64 a2, .int .i64 a3, .int .i64 b1, .int .i64 b2, .int .i64 b3] ∧ Blk W7 (W1.heap.size) [.int .i64 u1, .int .i64 u2, .int .i64 u3, .int .i64 v1, .int .i64 v2, .int .i64 v3] ∧ Blk W7 (W2.heap.size) [.int .i64 u1, .int .i64 u2, .int .i64 u3, .int .i64 v1, .int .i64 v2, .int .i64 v3] ∧ Blk W7 (W3.heap.size) [.int .i64 u1, .int .i64 u2, .int .i64 u3, .int .i64 v1, .int .i64 v2, .int .i64 v3] ∧ Blk W7 (W4.heap.size) [.int .i64 (-a1), .int .i64 (-a2), .int .i64 a3, .int .i64 (-b1), .int .i64 (-b2), .int .i64 b3] ∧ Blk W7 (W5.heap.size) [.int .i64 m1, .int .i64 m2, .int .i64 m3, .int .i64 n1, .int .i64 n2, .int .i64 n3] ∧ Blk W7 (W6.heap.size) [.int .i64 c1, .int .i64 c2, .int .i64 c3] := by
        refine ⟨?_, ?_, ?_, ?_, ?_, ?_, ?_, ?_⟩ <;> refine Blk.keep hb ?_ <;> (repeat' (first | (with_reducible first | assumption | apply Blk.set | (refine Blk.new ?_; focus (first | rfl | (simp; done))) | refine Blk.alloc ?_ _ | refine Blk.other ?_ ?_ _) | exact eqL rfl | (refine neB ?_; omega)))
      have ca := Ba.cell
      have fa := Ba.free
      have la_W7 := Ba.lt
      have cb := Bb.cell
      have fb := Bb.free
      have lb_W7 := Bb.lt
      have co := Bo.cell
      have fo := Bo.free
      have lo_W7 := Bo.lt
      have cw := Bw.cell
      have fw := Bw.free
      have lw_W7 := Bw.lt
      have cx := Bx.cell
      have fx := Bx.free
      have lx_W7 := Bx.lt
      have cm := Bm.cell
      have fm := Bm.free
      have lm_W7 := Bm.lt
      have cl1 := Bl1.cell
      have fl1 := Bl1.free
      have ll1_W7 := Bl1.lt
      have cc1 := Bc1.cell
      have fc1 := Bc1.free
      have lc1_W7 := Bc1.lt
      have kaW7 : Acc w W7 := by
        refine Acc.call ?_ hb
        (repeat' (first | (with_reducible first | assumption | exact Acc.refl _ | refine Acc.alloc ?_ _ | refine Acc.setCell ?_ ?_ _) | (refine leB ?_; omega)))
      clear hb
      go_wp2_with fail
      cases ht : jpowF x1 x2 x3 y1 y2 y3 with
      | none =>
       have HE := Lib.hid ht
       clear ht
       refine (gave_none HE.out (implJPower_any x1 x2 x3 y1 y2 y3 hx1 hx2 hx3 hy1 hy2 hy3 _ (HL.out _ (by repeat' (first | (with_reducible first | assumption | exact Acc.refl _ | refine Acc.alloc ?_ _ | refine Acc.setCell ?_ ?_ _) | (refine leB ?_; omega)))))).mono ?_
       rintro e W8 ⟨rfl, hb⟩
       obtain ⟨Ba, Bb, Bo, Bw, Bx, Bm, Bl1, Bc1, Bd⟩ : Blk W8 (W0.heap.size) [.int .i64 x1, .int .i64 x2, .int .i64 x3, .int .i64 y1, .int .i64 y2, .int .i64 y3] ∧ Blk W8 (W0.heap.size + 1) [.int .i64 a1, .int .i64 a2, .int .i64 a3, .int .i64 b1, .int .i64 b2, .int .i64 b3] ∧ Blk W8 (W1.heap.size) [.int .i64 u1, .int .i64 u2, .int .i64 u3, .int .i64 v1, .int .i64 v2, .int .i64 v3] ∧ Blk W8 (W2.heap.size) [.int .i64 u1, .int .i64 u2, .int .i64 u3, .int .i64 v1, .int .i64 v2, .int .i64 v3] ∧ Blk W8 (W3.heap.size) [.int .i64 u1, .int .i64 u2, .int .i64 u3, .int .i64 v1, .int .i64 v2, .int .i64 v3] ∧ Blk W8 (W4.heap.size) [.int .i64 (-a1), .int .i64 (-a2), .int .i64 a3, .int .i64 (-b1), .int .i64 (-b2), .int .i64 b3] ∧ Blk W8 (W5.heap.size) [.int .i64 m1, .int .i64 m2, .int .i64 m3, .int .i64 n1, .int .i64 n2, .int .i64 n3] ∧ Blk W8 (W6.heap.size) [.int .i64 c1, .int .i64 c2, .int .i64 c3] ∧ Blk W8 (W7.heap.size) [.int .i64 d1, .int .i64 d2, .int .i64 d3] := by
         refine ⟨?_, ?_, ?_, ?_, ?_, ?_, ?_, ?_, ?_⟩ <;> refine Blk.keep hb ?_ <;> (repeat' (first | (with_reducible first | assumption | apply Blk.set | (refine Blk.new ?_; focus (first | rfl | (simp; done))) | refine Blk.alloc ?_ _ | refine Blk.other ?_ ?_ _) | exact eqL rfl | (refine neB ?_; omega)))
       have ca := Ba.cell
       have fa := Ba.free
       have la_W8 := Ba.lt
       have cb := Bb.cell
       have fb := Bb.free
       have lb_W8 := Bb.lt
       have co := Bo.cell
       have fo := Bo.free
       have lo_W8 := Bo.lt
       have cw := Bw.cell
       have fw := Bw.free
       have lw_W8 := Bw.lt
       have cx := Bx.cell
       have fx := Bx.free
       have lx_W8 := Bx.lt
       have cm := Bm.cell
       have fm := Bm.free
       have lm_W8 := Bm.lt
       have cl1 := Bl1.cell
       have fl1 := Bl1.free
       have ll1_W8 := Bl1.lt
       have cc1 := Bc1.cell
       have fc1 := Bc1.free
       have lc1_W8 := Bc1.lt
       have cd := Bd.cell
       have fd := Bd.free
       have ld_W8 := Bd.lt
       have kaW8 : Acc w W8 := by
         refine Acc.call ?_ hb
         (repeat' (first | (with_reducible first | assumption | exact Acc.refl _ | refine Acc.alloc ?_ _ | refine Acc.setCell ?_ ?_ _) | (refine leB ?_; omega)))
       clear hb
       go_wp2_with fail
       obtain ⟨⟨f1, f2, f3⟩, hv⟩ : ∃ o, partsR (jpowF a1 a2 a3 b1 b2 b3) = o := ⟨_, rfl⟩
       obtain ⟨kf, hk⟩ : ∃ k, okR (jpowF a1 a2 a3 b1 b2 b3) = k := ⟨_, rfl⟩
       obtain ⟨hf1, hf2, hf3⟩ := parts_i64 (fun _ _ _ h => jpow_ok h) hv
       have HV := Lib.hid hv
       have HK := Lib.hid hk
       clear hv hk
       refine (gave_any HV.out HK.out (implJPower_any a1 a2 a3 b1 b2 b3 ha1 ha2 ha3 hb1 hb2 hb3 _ (HL.out _ (by repeat' (first | (with_reducible first | assumption | exact Acc.refl _ | refine Acc.alloc ?_ _ | refine Acc.setCell ?_ ?_ _) | (refine leB ?_; omega)))))).mono ?_
       rintro e W9 ⟨rfl, hb⟩
       obtain ⟨Ba, Bb, Bo, Bw, Bx, Bm, Bl1, Bc1, Bd, Be⟩ : Blk W9 (W0.heap.size) [.int .i64 x1, .int .i64 x2, .int .i64 x3, .int .i64 y1, .int .i64 y2, .int .i64 y3] ∧ Blk W9 (W0.heap.size + 1) [.int .i64 a1, .int .i64 a2, .int .i64 a3, .int .i64 b1, .int .i64 b2, .int .i64 b3] ∧ Blk W9 (W1.heap.size) [.int .i64 u1, .int .i64 u2, .int .i64 u3, .int .i64 v1, .int .i64 v2, .int .i64 v3] ∧ Blk W9 (W2.heap.size) [.int .i64 u1, .int .i64 u2, .int .i64 u3, .int .i64 v1, .int .i64 v2, .int .i64 v3] ∧ Blk W9 (W3.heap.size) [.int .i64 u1, .int .i64 u2, .int .i64 u3, .int .i64 v1, .int .i64 v2, .int .i64 v3] ∧ Blk W9 (W4.heap.size) [.int .i64 (-a1), .int .i64 (-a2), .int .i64 a3, .int .i64 (-b1), .int .i64 (-b2), .int .i64 b3] ∧ Blk W9 (W5.heap.size) [.int .i64 m1, .int .i64 m2, .int .i64 m3, .int .i64 n1, .int .i64 n2, .int .i64 n3] ∧ Blk W9 (W6.heap.size) [.int .i64 c1, .int .i64 c2, .int .i64 c3] ∧ Blk W9 (W7.heap.size) [.int .i64 d1, .int .i64 d2, .int .i64 d3] ∧ Blk W9 (W8.heap.size) [.int .i64 0, .int .i64 0, .int .i64 0] := by
         refine ⟨?_, ?_, ?_, ?_, ?_, ?_, ?_, ?_, ?_, ?_⟩ <;> refine Blk.keep hb ?_ <;> (repeat' (first | (with_reducible first | assumption | apply Blk.set | (refine Blk.new ?_; focus (first | rfl | (simp; done))) | refine Blk.alloc ?_ _ | refine Blk.other ?_ ?_ _) | exact eqL rfl | (refine neB ?_; omega)))
       have ca := Ba.cell
       have fa := Ba.free
       have la_W9 := Ba.lt
       have cb := Bb.cell
       have fb := Bb.free
       have lb_W9 := Bb.lt
       have co := Bo.cell
       have fo := Bo.free
       have lo_W9 := Bo.lt
       have cw := Bw.cell
       have fw := Bw.free
       have lw_W9 := Bw.lt
       have cx := Bx.cell
       have fx := Bx.free
       have lx_W9 := Bx.lt
       have cm := Bm.cell
       have fm := Bm.free
       have lm_W9 := Bm.lt
       have cl1 := Bl1.cell
       have fl1 := Bl1.free
       have ll1_W9 := Bl1.lt
       have cc1 := Bc1.cell
       have fc1 := Bc1.free
       have lc1_W9 := Bc1.lt
       have cd := Bd.cell
       have fd := Bd.free
       have ld_W9 := Bd.lt
       have ce := Be.cell
       have fe := Be.free
       have le_W9 := Be.lt
       have kaW9 : Acc w W9 := by
         refine Acc.call ?_ hb
         (repeat' (first | (with_reducible first | assumption | exact Acc.refl _ | refine Acc.alloc ?_ _ | refine Acc.setCell ?_ ?_ _) | (refine leB ?_; omega)))
       clear hb
       go_wp2_with fail
       obtain ⟨⟨g1, g2, g3⟩, hv⟩ : ∃ o, partsR (sumF 1 0 0 0 f1 f2 f3) = o := ⟨_, rfl⟩
       obtain ⟨kg, hk⟩ : ∃ k, okR (sumF 1 0 0 0 f1 f2 f3) = k := ⟨_, rfl⟩
       obtain ⟨hg1, hg2, hg3⟩ := parts_i64 (fun _ _ _ h => sum_ok h) hv
       have HV := Lib.hid hv
       have HK := Lib.hid hk
       clear hv hk
       refine (gave_any HV.out HK.out (implAdd_any 0 0 0 f1 f2 f3 i64_0 i64_0 i64_0 hf1 hf2 hf3 _ (HL.out _ (by repeat' (first | (with_reducible first | assumption | exact Acc.refl _ | refine Acc.alloc ?_ _ | refine Acc.setCell ?_ ?_ _) | (refine leB ?_; omega)))))).mono ?_
       rintro e W10 ⟨rfl, hb⟩
       obtain ⟨Ba, Bb, Bo, Bw, Bx, Bm, Bl1, Bc1, Bd, Be, Bf⟩ : Blk W10 (W0.heap.size) [.int .i64 x1, .int .i64 x2, .int .i64 x3, .int .i64 y1, .int .i64 y2, .int .i64 y3] ∧ Blk W10 (W0.heap.size + 1) [.int .i64 a1, .int .i64 a2, .int .i64 a3, .int .i64 b1, .int .i64 b2, .int .i64 b3] ∧ Blk W10 (W1.heap.size) [.int .i64 u1, .int .i64 u2, .int .i64 u3, .int .i64 v1, .int .i64 v2, .int .i64 v3] ∧ Blk W10 (W2.heap.size) [.int .i64 u1, .int .i64 u2, .int .i64 u3, .int .i64 v1, .int .i64 v2, .int .i64 v3] ∧ Blk W10 (W3.heap.size) [.int .i64 u1, .int .i64 u2, .int .i64 u3, .int .i64 v1, .int .i64 v2, .int .i64 v3] ∧ Blk W10 (W4.heap.size) [.int .i64 (-a1), .int .i64 (-a2), .int .i64 a3, .int .i64 (-b1), .int .i64 (-b2), .int .i64 b3] ∧ Blk W10 (W5.heap.size) [.int .i64 m1, .int .i64 m2, .int .i64 m3, .int .i64 n1, .int .i64 n2, .int .i64 n3] ∧ Blk W10 (W6.heap.size) [.int .i64 c1, .int .i64 c2, .int .i64 c3] ∧ Blk W10 (W7.heap.size) [.int .i64 d1, .int .i64 d2, .int .i64 d3] ∧ Blk W10 (W8.heap.size) [.int .i64 0, .int .i64 0, .int .i64 0] ∧ Blk W10 (W9.heap.size) [.int .i64 f1, .int .i64 f2, .int .i64 f3] := by
         refine ⟨?_, ?_, ?_, ?_, ?_, ?_, ?_, ?_, ?_, ?_, ?_⟩ <;> refine Blk.keep hb ?_ <;> (repeat' (first | (with_reducible first | assumption | apply Blk.set | (refine Blk.new ?_; focus (first | rfl | (simp; done))) | refine Blk.alloc ?_ _ | refine Blk.other ?_ ?_ _) | exact eqL rfl | (refine neB ?_; omega)))
       have ca := Ba.cell
       have fa := Ba.free
       have la_W10 := Ba.lt
       have cb := Bb.cell
       have fb := Bb.free
       have lb_W10 := Bb.lt
       have co := Bo.cell
       have fo := Bo.free
       have lo_W10 := Bo.lt
       have cw := Bw.cell
       have fw := Bw.free
       have lw_W10 := Bw.lt
       have cx := Bx.cell
       have fx := Bx.free
       have lx_W10 := Bx.lt
       have cm := Bm.cell
       have fm := Bm.free
       have lm_W10 := Bm.lt
       have cl1 := Bl1.cell
       have fl1 := Bl1.free
       have ll1_W10 := Bl1.lt
       have cc1 := Bc1.cell
       have fc1 := Bc1.free
       have lc1_W10 := Bc1.lt
       have cd := Bd.cell
       have fd := Bd.free
       have ld_W10 := Bd.lt
       have ce := Be.cell
       have fe := Be.free
       have le_W10 := Be.lt
       have cf := Bf.cell
       have ff := Bf.free
       have lf_W10 := Bf.lt
       have kaW10 : Acc w W10 := by
         refine Acc.call ?_ hb
         (repeat' (first | (with_reducible first | assumption | exact Acc.refl _ | refine Acc.alloc ?_ _ | refine Acc.setCell ?_ ?_ _) | (refine leB ?_; omega)))
       clear hb
       go_wp2_with fail
       obtain ⟨⟨t1, t2, t3⟩, hv⟩ : ∃ o, partsR (sumF 1 g1 g2 g3 g1 g2 g3) = o := ⟨_, rfl⟩
       obtain ⟨kt, hk⟩ : ∃ k, okR (sumF 1 g1 g2 g3 g1 g2 g3) = k := ⟨_, rfl⟩
       obtain ⟨ht1, ht2, ht3⟩ := parts_i64 (fun _ _ _ h => sum_ok h) hv
       have HV := Lib.hid hv
       have HK := Lib.hid hk
       clear hv hk
       refine (gave_any HV.out HK.out (implAdd_any g1 g2 g3 g1 g2 g3 hg1 hg2 hg3 hg1 hg2 hg3 _ (HL.out _ (by repeat' (first | (with_reducible first | assumption | exact Acc.refl _ | refine Acc.alloc ?_ _ | refine Acc.setCell ?_ ?_ _) | (refine leB ?_; omega)))))).mono ?_
       rintro e W11 ⟨rfl, hb⟩
       obtain ⟨Ba, Bb, Bo, Bw, Bx, Bm, Bl1, Bc1, Bd, Be, Bf, Bg⟩ : Blk W11 (W0.heap.size) [.int .i64 x1, .int .i64 x2, .int .i64 x3, .int .i64 y1, .int .i64 y2, .int .i64 y3] ∧ Blk W11 (W0.heap.size + 1) [.int .i64 a1, .int .i64 a2, .int .i64 a3, .int .i64 b1, .int .i64 b2, .int .i64 b3] ∧ Blk W11 (W1.heap.size) [.int .i64 u1, .int .i64 u2, .int .i64 u3, .int .i64 v1, .int .i64 v2, .int .i64 v3] ∧ Blk W11 (W2.heap.size) [.int .i64 u1, .int .i64 u2, .int .i64 u3, .int .i64 v1, .int .i64 v2, .int .i64 v3] ∧ Blk W11 (W3.heap.size) [.int .i64 u1, .int .i64 u2, .int .i64 u3, .int .i64 v1, .int .i64 v2, .int .i64 v3] ∧ Blk W11 (W4.heap.size) [.int .i64 (-a1), .int .i64 (-a2), .int .i64 a3, .int .i64 (-b1), .int .i64 (-b2), .int .i64 b3] ∧ Blk W11 (W5.heap.size) [.int .i64 m1, .int .i64 m2, .int .i64 m3, .int .i64 n1, .int .i64 n2, .int .i64 n3] ∧ Blk W11 (W6.heap.size) [.int .i64 c1, .int .i64 c2, .int .i64 c3] ∧ Blk W11 (W7.heap.size) [.int .i64 d1, .int .i64 d2, .int .i64 d3] ∧ Blk W11 (W8.heap.size) [.int .i64 0, .int .i64 0, .int .i64 0] ∧ Blk W11 (W9.heap.size) [.int .i64 f1, .int .i64 f2, .int .i64 f3] ∧ Blk W11 (W10.heap.size) [.int .i64 g1, .int .i64 g2, .int .i64 g3] := by
         refine ⟨?_, ?_, ?_, ?_, ?_, ?_, ?_, ?_, ?_, ?_, ?_, ?_⟩ <;> refine Blk.keep hb ?_ <;> (repeat' (first | (with_reducible first | assumption | apply Blk.set | (refine Blk.new ?_; focus (first | rfl | (simp; done))) | refine Blk.alloc ?_ _ | refine Blk.other ?_ ?_ _) | exact eqL rfl | (refine neB ?_; omega)))
       have ca := Ba.cell
       have fa := Ba.free
       have la_W11 := Ba.lt
       have cb := Bb.cell
       have fb := Bb.free
       have lb_W11 := Bb.lt
       have co := Bo.cell
       have fo := Bo.free
       have lo_W11 := Bo.lt
       have cw := Bw.cell
       have fw := Bw.free
       have lw_W11 := Bw.lt
       have cx := Bx.cell
       have fx := Bx.free
       have lx_W11 := Bx.lt
       have cm := Bm.cell
       have fm := Bm.free
       have lm_W11 := Bm.lt
       have cl1 := Bl1.cell
       have fl1 := Bl1.free
       have ll1_W11 := Bl1.lt
       have cc1 := Bc1.cell
       have fc1 := Bc1.free
       have lc1_W11 := Bc1.lt
       have cd := Bd.cell
       have fd := Bd.free
       have ld_W11 := Bd.lt
       have ce := Be.cell
       have fe := Be.free
       have le_W11 := Be.lt
       have cf := Bf.cell
       have ff := Bf.free
       have lf_W11 := Bf.lt
       have cg := Bg.cell
       have fg := Bg.free
       have lg_W11 := Bg.lt
       have kaW11 : Acc w W11 := by
         refine Acc.call ?_ hb
         (repeat' (first | (with_reducible first | assumption | exact Acc.refl _ | refine Acc.alloc ?_ _ | refine Acc.setCell ?_ ?_ _) | (refine leB ?_; omega)))
       clear hb
       go_wp2_with fail
       obtain ⟨⟨s1, s2, s3⟩, hv⟩ : ∃ o, partsR (sumF 1 c1 c2 c3 d1 d2 d3) = o := ⟨_, rfl⟩
       obtain ⟨ks, hk⟩ : ∃ k, okR (sumF 1 c1 c2 c3 d1 d2 d3) = k := ⟨_, rfl⟩
       obtain ⟨hs1, hs2, hs3⟩ := parts_i64 (fun _ _ _ h => sum_ok h) hv
       have HV := Lib.hid hv
       have HK := Lib.hid hk
       clear hv hk
       refine (gave_any HV.out HK.out (implAdd_any c1 c2 c3 d1 d2 d3 hc1 hc2 hc3 hd1 hd2 hd3 _ (HL.out _ (by repeat' (first | (with_reducible first | assumption | exact Acc.refl _ | refine Acc.alloc ?_ _ | refine Acc.setCell ?_ ?_ _) | (refine leB ?_; omega)))))).mono ?_
       rintro e W12 ⟨rfl, hb⟩
       obtain ⟨Ba, Bb, Bo, Bw, Bx, Bm, Bl1, Bc1, Bd, Be, Bf, Bg, Bt⟩ : Blk W12 (W0.heap.size) [.int .i64 x1, .int .i64 x2, .int .i64 x3, .int .i64 y1, .int .i64 y2, .int .i64 y3] ∧ Blk W12 (W0.heap.size + 1) [.int .i64 a1, .int .i64 a2, .int .i64 a3, .int .i64 b1, .int .i64 b2, .int .i64 b3] ∧ Blk W12 (W1.heap.size) [.int .i64 u1, .int .i64 u2, .int .i64 u3, .int .i64 v1, .int .i64 v2, .int .i64 v3] ∧ Blk W12 (W2.heap.size) [.int .i64 u1, .int .i64 u2, .int .i64 u3, .int .i64 v1, .int .i64 v2, .int .i64 v3] ∧ Blk W12 (W3.heap.size) [.int .i64 u1, .int .i64 u2, .int .i64 u3, .int .i64 v1, .int .i64 v2, .int .i64 v3] ∧ Blk W12 (W4.heap.size) [.int .i64 (-a1), .int .i64 (-a2), .int .i64 a3, .int .i64 (-b1), .int .i64 (-b2), .int .i64 b3] ∧ Blk W12 (W5.heap.size) [.int .i64 m1, .int .i64 m2, .int .i64 m3, .int .i64 n1, .int .i64 n2, .int .i64 n3] ∧ Blk W12 (W6.heap.size) [.int .i64 c1, .int .i64 c2, .int .i64 c3] ∧ Blk W12 (W7.heap.size) [.int .i64 d1, .int .i64 d2, .int .i64 d3] ∧ Blk W12 (W8.heap.size) [.int .i64 0, .int .i64 0, .int .i64 0] ∧ Blk W12 (W9.heap.size) [.int .i64 f1, .int .i64 f2, .int .i64 f3] ∧ Blk W12 (W10.heap.size) [.int .i64 g1, .int .i64 g2, .int .i64 g3] ∧ Blk W12 (W11.heap.size) [.int .i64 t1, .int .i64 t2, .int .i64 t3] := by
         refine ⟨?_, ?_, ?_, ?_, ?_, ?_, ?_, ?_, ?_, ?_, ?_, ?_, ?_⟩ <;> refine Blk.keep hb ?_ <;> (repeat' (first | (with_reducible first | assumption | apply Blk.set | (refine Blk.new ?_; focus (first | rfl | (simp; done))) | refine Blk.alloc ?_ _ | refine Blk.other ?_ ?_ _) | exact eqL rfl | (refine neB ?_; omega)))
       have ca := Ba.cell
       have fa := Ba.free
       have la_W12 := Ba.lt
       have cb := Bb.cell
       have fb := Bb.free
       have lb_W12 := Bb.lt
       have co := Bo.cell
       have fo := Bo.free
       have lo_W12 := Bo.lt
       have cw := Bw.cell
       have fw := Bw.free
       have lw_W12 := Bw.lt
       have cx := Bx.cell
       have fx := Bx.free
       have lx_W12 := Bx.lt
       have cm := Bm.cell
       have fm := Bm.free
       have lm_W12 := Bm.lt
       have cl1 := Bl1.cell
       have fl1 := Bl1.free
       have ll1_W12 := Bl1.lt
       have cc1 := Bc1.cell
       have fc1 := Bc1.free
       have lc1_W12 := Bc1.lt
       have cd := Bd.cell
       have fd := Bd.free
       have ld_W12 := Bd.lt
       have ce := Be.cell
       have fe := Be.free
       have le_W12 := Be.lt
       have cf := Bf.cell
       have ff := Bf.free
       have lf_W12 := Bf.lt
       have cg := Bg.cell
       have fg := Bg.free
       have lg_W12 := Bg.lt
       have ct := Bt.cell
       have ft := Bt.free
       have lt_W12 := Bt.lt
       have kaW12 : Acc w W12 := by
         refine Acc.call ?_ hb
         (repeat' (first | (with_reducible first | assumption | exact Acc.refl _ | refine Acc.alloc ?_ _ | refine Acc.setCell ?_ ?_ _) | (refine leB ?_; omega)))
       clear hb
       go_wp2_with fail
       all_goals
         go_ret
         refine ⟨by first | rfl | (simp [*]; done) | (simp [go_sem, *]; done), ?_⟩
         show Acc w _
         (repeat' (first | (with_reducible first | assumption | exact Acc.refl _ | refine Acc.alloc ?_ _ | refine Acc.setCell ?_ ?_ _) | (refine leB ?_; omega)))
      | some v =>
       obtain ⟨e1, e2, e3⟩ := v
       obtain ⟨he1, he2, he3⟩ := okF_i64 (jpow_ok ht)
       have HE := Lib.hid ht
       clear ht
       refine (gave_some HE.out (implJPower_any x1 x2 x3 y1 y2 y3 hx1 hx2 hx3 hy1 hy2 hy3 _ (HL.out _ (by repeat' (first | (with_reducible first | assumption | exact Acc.refl _ | refine Acc.alloc ?_ _ | refine Acc.setCell ?_ ?_ _) | (refine leB ?_; omega)))))).mono ?_
       rintro e W8 ⟨rfl, hb⟩
       obtain ⟨Ba, Bb, Bo, Bw, Bx, Bm, Bl1, Bc1, Bd⟩ : Blk W8 (W0.heap.size) [.int .i64 x1, .int .i64 x2, .int .i64 x3, .int .i64 y1, .int .i64 y2, .int .i64 y3] ∧ Blk W8 (W0.heap.size + 1) [.int .i64 a1, .int .i64 a2, .int .i64 a3, .int .i64 b1, .int .i64 b2, .int .i64 b3] ∧ Blk W8 (W1.heap.size) [.int .i64 u1, .int .i64 u2, .int .i64 u3, .int .i64 v1, .int .i64 v2, .int .i64 v3] ∧ Blk W8 (W2.heap.size) [.int .i64 u1, .int .i64 u2, .int .i64 u3, .int .i64 v1, .int .i64 v2, .int .i64 v3] ∧ Blk W8 (W3.heap.size) [.int .i64 u1, .int .i64 u2, .int .i64 u3, .int .i64 v1, .int .i64 v2, .int .i64 v3] ∧ Blk W8 (W4.heap.size) [.int .i64 (-a1), .int .i64 (-a2), .int .i64 a3, .int .i64 (-b1), .int .i64 (-b2), .int .i64 b3] ∧ Blk W8 (W5.heap.size) [.int .i64 m1, .int .i64 m2, .int .i64 m3, .int .i64 n1, .int .i64 n2, .int .i64 n3] ∧ Blk W8 (W6.heap.size) [.int .i64 c1, .int .i64 c2, .int .i64 c3] ∧ Blk W8 (W7.heap.size) [.int .i64 d1, .int .i64 d2, .int .i64 d3] := by
         refine ⟨?_, ?_, ?_, ?_, ?_, ?_, ?_, ?_, ?_⟩ <;> refine Blk.keep hb ?_ <;> (repeat' (first | (with_reducible first | assumption | apply Blk.set | (refine Blk.new ?_; focus (first | rfl | (simp; done))) | refine Blk.alloc ?_ _ | refine Blk.other ?_ ?_ _) | exact eqL rfl | (refine neB ?_; omega)))
       have ca := Ba.cell
       have fa := Ba.free
       have la_W8 := Ba.lt
       have cb := Bb.cell
       have fb := Bb.free
       have lb_W8 := Bb.lt
       have co := Bo.cell
       have fo := Bo.free
       have lo_W8 := Bo.lt
       have cw := Bw.cell
       have fw := Bw.free
       have lw_W8 := Bw.lt
       have cx := Bx.cell
       have fx := Bx.free
       have lx_W8 := Bx.lt
       have cm := Bm.cell
       have fm := Bm.free
       have lm_W8 := Bm.lt
       have cl1 := Bl1.cell
       have fl1 := Bl1.free
       have ll1_W8 := Bl1.lt
       have cc1 := Bc1.cell
       have fc1 := Bc1.free
       have lc1_W8 := Bc1.lt
       have cd := Bd.cell
       have fd := Bd.free
       have ld_W8 := Bd.lt
       have kaW8 : Acc w W8 := by
         refine Acc.call ?_ hb
         (repeat' (first | (with_reducible first | assumption | exact Acc.refl _ | refine Acc.alloc ?_ _ | refine Acc.setCell ?_ ?_ _) | (refine leB ?_; omega)))
       clear hb
       go_wp2_with fail
       cases ht : jpowF a1 a2 a3 b1 b2 b3 with
       | none =>
        have HF := Lib.hid ht
        clear ht
        refine (gave_none HF.out (implJPower_any a1 a2 a3 b1 b2 b3 ha1 ha2 ha3 hb1 hb2 hb3 _ (HL.out _ (by repeat' (first | (with_reducible first | assumption | exact Acc.refl _ | refine Acc.alloc ?_ _ | refine Acc.setCell ?_ ?_ _) | (refine leB ?_; omega)))))).mono ?_
        rintro e W9 ⟨rfl, hb⟩
        obtain ⟨Ba, Bb, Bo, Bw, Bx, Bm, Bl1, Bc1, Bd, Be⟩ : Blk W9 (W0.heap.size) [.int .i64 x1, .int .i64 x2, .int .i64 x3, .int .i64 y1, .int .i64 y2, .int .i64 y3] ∧ Blk W9 (W0.heap.size + 1) [.int .i64 a1, .int .i64 a2, .int .i64 a3, .int .i64 b1, .int .i64 b2, .int .i64 b3] ∧ Blk W9 (W1.heap.size) [.int .i64 u1, .int .i64 u2, .int .i64 u3, .int .i64 v1, .int .i64 v2, .int .i64 v3] ∧ Blk W9 (W2.heap.size) [.int .i64 u1, .int .i64 u2, .int .i64 u3, .int .i64 v1, .int .i64 v2, .int .i64 v3] ∧ Blk W9 (W3.heap.size) [.int .i64 u1, .int .i64 u2, .int .i64 u3, .int .i64 v1, .int .i64 v2, .int .i64 v3] ∧ Blk W9 (W4.heap.size) [.int .i64 (-a1), .int .i64 (-a2), .int .i64 a3, .int .i64 (-b1), .int .i64 (-b2), .int .i64 b3] ∧ Blk W9 (W5.heap.size) [.int .i64 m1, .int .i64 m2, .int .i64 m3, .int .i64 n1, .int .i64 n2, .int .i64 n3] ∧ Blk W9 (W6.heap.size) [.int .i64 c1, .int .i64 c2, .int .i64 c3] ∧ Blk W9 (W7.heap.size) [.int .i64 d1, .int .i64 d2, .int .i64 d3] ∧ Blk W9 (W8.heap.size) [.int .i64 e1, .int .i64 e2, .int .i64 e3] := by
          refine ⟨?_, ?_, ?_, ?_, ?_, ?_, ?_, ?_, ?_, ?_⟩ <;> refine Blk.keep hb ?_ <;> (repeat' (first | (with_reducible first | assumption | apply Blk.set | (refine Blk.new ?_; focus (first | rfl | (simp; done))) | refine Blk.alloc ?_ _ | refine Blk.other ?_ ?_ _) | exact eqL rfl | (refine neB ?_; omega)))
        have ca := Ba.cell
        have fa := Ba.free
        have la_W9 := Ba.lt
        have cb := Bb.cell
        have fb := Bb.free
        have lb_W9 := Bb.lt
        have co := Bo.cell
        have fo := Bo.free
        have lo_W9 := Bo.lt
        have cw := Bw.cell
        have fw := Bw.free
        have lw_W9 := Bw.lt
        have cx := Bx.cell
        have fx := Bx.free
        have lx_W9 := Bx.lt
        have cm := Bm.cell
        have fm := Bm.free
        have lm_W9 := Bm.lt
        have cl1 := Bl1.cell
        have fl1 := Bl1.free
        have ll1_W9 := Bl1.lt
        have cc1 := Bc1.cell
        have fc1 := Bc1.free
        have lc1_W9 := Bc1.lt
        have cd := Bd.cell
        have fd := Bd.free
        have ld_W9 := Bd.lt
        have ce := Be.cell
        have fe := Be.free
        have le_W9 := Be.lt
        have kaW9 : Acc w W9 := by
          refine Acc.call ?_ hb
          (repeat' (first | (with_reducible first | assumption | exact Acc.refl _ | refine Acc.alloc ?_ _ | refine Acc.setCell ?_ ?_ _) | (refine leB ?_; omega)))
        clear hb
        go_wp2_with fail
        obtain ⟨⟨g1, g2, g3⟩, hv⟩ : ∃ o, partsR (sumF 1 e1 e2 e3 0 0 0) = o := ⟨_, rfl⟩
        obtain ⟨kg, hk⟩ : ∃ k, okR (sumF 1 e1 e2 e3 0 0 0) = k := ⟨_, rfl⟩
        obtain ⟨hg1, hg2, hg3⟩ := parts_i64 (fun _ _ _ h => sum_ok h) hv
        have HV := Lib.hid hv
        have HK := Lib.hid hk
        clear hv hk
        refine (gave_any HV.out HK.out (implAdd_any e1 e2 e3 0 0 0 he1 he2 he3 i64_0 i64_0 i64_0 _ (HL.out _ (by repeat' (first | (with_reducible first | assumption | exact Acc.refl _ | refine Acc.alloc ?_ _ | refine Acc.setCell ?_ ?_ _) | (refine leB ?_; omega)))))).mono ?_
        rintro e W10 ⟨rfl, hb⟩
        obtain ⟨Ba, Bb, Bo, Bw, Bx, Bm, Bl1, Bc1, Bd, Be, Bf⟩ : Blk W10 (W0.heap.size) [.int .i64 x1, .int .i64 x2, .int .i64 x3, .int .i64 y1, .int .i64 y2, .int .i64 y3] ∧ Blk W10 (W0.heap.size + 1) [.int .i64 a1, .int .i64 a2, .int .i64 a3, .int .i64 b1, .int .i64 b2, .int .i64 b3] ∧ Blk W10 (W1.heap.size) [.int .i64 u1, .int .i64 u2, .int .i64 u3, .int .i64 v1, .int .i64 v2, .int .i64 v3] ∧ Blk W10 (W2.heap.size) [.int .i64 u1, .int .i64 u2, .int .i64 u3, .int .i64 v1, .int .i64 v2, .int .i64 v3] ∧ Blk W10 (W3.heap.size) [.int .i64 u1, .int .i64 u2, .int .i64 u3, .int .i64 v1, .int .i64 v2, .int .i64 v3] ∧ Blk W10 (W4.heap.size) [.int .i64 (-a1), .int .i64 (-a2), .int .i64 a3, .int .i64 (-b1), .int .i64 (-b2), .int .i64 b3] ∧ Blk W10 (W5.heap.size) [.int .i64 m1, .int .i64 m2, .int .i64 m3, .int .i64 n1, .int .i64 n2, .int .i64 n3] ∧ Blk W10 (W6.heap.size) [.int .i64 c1, .int .i64 c2, .int .i64 c3] ∧ Blk W10 (W7.heap.size) [.int .i64 d1, .int .i64 d2, .int .i64 d3] ∧ Blk W10 (W8.heap.size) [.int .i64 e1, .int .i64 e2, .int .i64 e3] ∧ Blk W10 (W9.heap.size) [.int .i64 0, .int .i64 0, .int .i64 0] := by
          refine ⟨?_, ?_, ?_, ?_, ?_, ?_, ?_, ?_, ?_, ?_, ?_⟩ <;> refine Blk.keep hb ?_ <;> (repeat' (first | (with_reducible first | assumption | apply Blk.set | (refine Blk.new ?_; focus (first | rfl | (simp; done))) | refine Blk.alloc ?_ _ | refine Blk.other ?_ ?_ _) | exact eqL rfl | (refine neB ?_; omega)))
        have ca := Ba.cell
        have fa := Ba.free
        have la_W10 := Ba.lt
        have cb := Bb.cell
        have fb := Bb.free
        have lb_W10 := Bb.lt
        have co := Bo.cell
        have fo := Bo.free
        have lo_W10 := Bo.lt
        have cw := Bw.cell
        have fw := Bw.free
        have lw_W10 := Bw.lt
        have cx := Bx.cell
        have fx := Bx.free
        have lx_W10 := Bx.lt
        have cm := Bm.cell
        have fm := Bm.free
        have lm_W10 := Bm.lt
        have cl1 := Bl1.cell
        have fl1 := Bl1.free
        have ll1_W10 := Bl1.lt
        have cc1 := Bc1.cell
        have fc1 := Bc1.free
        have lc1_W10 := Bc1.lt
        have cd := Bd.cell
        have fd := Bd.free
        have ld_W10 := Bd.lt
        have ce := Be.cell
        have fe := Be.free
        have le_W10 := Be.lt
        have cf := Bf.cell
        have ff := Bf.free
        have lf_W10 := Bf.lt
        have kaW10 : Acc w W10 := by
          refine Acc.call ?_ hb
          (repeat' (first | (with_reducible first | assumption | exact Acc.refl _ | refine Acc.alloc ?_ _ | refine Acc.setCell ?_ ?_ _) | (refine leB ?_; omega)))
        clear hb
        go_wp2_with fail
        obtain ⟨⟨t1, t2, t3⟩, hv⟩ : ∃ o, partsR (sumF 1 g1 g2 g3 g1 g2 g3) = o := ⟨_, rfl⟩
        obtain ⟨kt, hk⟩ : ∃ k, okR (sumF 1 g1 g2 g3 g1 g2 g3) = k := ⟨_, rfl⟩
        obtain ⟨ht1, ht2, ht3⟩ := parts_i64 (fun _ _ _ h => sum_ok h) hv
        have HV := Lib.hid hv
        have HK := Lib.hid hk
        clear hv hk
        refine (gave_any HV.out HK.out (implAdd_any g1 g2 g3 g1 g2 g3 hg1 hg2 hg3 hg1 hg2 hg3 _ (HL.out _ (by repeat' (first | (with_reducible first | assumption | exact Acc.refl _ | refine Acc.alloc ?_ _ | refine Acc.setCell ?_ ?_ _) | (refine leB ?_; omega)))))).mono ?_
        rintro e W11 ⟨rfl, hb⟩
        obtain ⟨Ba, Bb, Bo, Bw, Bx, Bm, Bl1, Bc1, Bd, Be, Bf, Bg⟩ : Blk W11 (W0.heap.size) [.int .i64 x1, .int .i64 x2, .int .i64 x3, .int .i64 y1, .int .i64 y2, .int .i64 y3] ∧ Blk W11 (W0.heap.size + 1) [.int .i64 a1, .int .i64 a2, .int .i64 a3, .int .i64 b1, .int .i64 b2, .int .i64 b3] ∧ Blk W11 (W1.heap.size) [.int .i64 u1, .int .i64 u2, .int .i64 u3, .int .i64 v1, .int .i64 v2, .int .i64 v3] ∧ Blk W11 (W2.heap.size) [.int .i64 u1, .int .i64 u2, .int .i64 u3, .int .i64 v1, .int .i64 v2, .int .i64 v3] ∧ Blk W11 (W3.heap.size) [.int .i64 u1, .int .i64 u2, .int .i64 u3, .int .i64 v1, .int .i64 v2, .int .i64 v3] ∧ Blk W11 (W4.heap.size) [.int .i64 (-a1), .int .i64 (-a2), .int .i64 a3, .int .i64 (-b1), .int .i64 (-b2), .int .i64 b3] ∧ Blk W11 (W5.heap.size) [.int .i64 m1, .int .i64 m2, .int .i64 m3, .int .i64 n1, .int .i64 n2, .int .i64 n3] ∧ Blk W11 (W6.heap.size) [.int .i64 c1, .int .i64 c2, .int .i64 c3] ∧ Blk W11 (W7.heap.size) [.int .i64 d1, .int .i64 d2, .int .i64 d3] ∧ Blk W11 (W8.heap.size) [.int .i64 e1, .int .i64 e2, .int .i64 e3] ∧ Blk W11 (W9.heap.size) [.int .i64 0, .int .i64 0, .int .i64 0] ∧ Blk W11 (W10.heap.size) [.int .i64 g1, .int .i64 g2, .int .i64 g3] := by
          refine ⟨?_, ?_, ?_, ?_, ?_, ?_, ?_, ?_, ?_, ?_, ?_, ?_⟩ <;> refine Blk.keep hb ?_ <;> (repeat' (first | (with_reducible first | assumption | apply Blk.set | (refine Blk.new ?_; focus (first | rfl | (simp; done))) | refine Blk.alloc ?_ _ | refine Blk.other ?_ ?_ _) | exact eqL rfl | (refine neB ?_; omega)))
        have ca := Ba.cell
        have fa := Ba.free
        have la_W11 := Ba.lt
        have cb := Bb.cell
        have fb := Bb.free
        have lb_W11 := Bb.lt
        have co := Bo.cell
        have fo := Bo.free
        have lo_W11 := Bo.lt
        have cw := Bw.cell
        have fw := Bw.free
        have lw_W11 := Bw.lt
        have cx := Bx.cell
        have fx := Bx.free
        have lx_W11 := Bx.lt
        have cm := Bm.cell
        have fm := Bm.free
        have lm_W11 := Bm.lt
        have cl1 := Bl1.cell
        have fl1 := Bl1.free
        have ll1_W11 := Bl1.lt
        have cc1 := Bc1.cell
        have fc1 := Bc1.free
        have lc1_W11 := Bc1.lt
        have cd := Bd.cell
        have fd := Bd.free
        have ld_W11 := Bd.lt
        have ce := Be.cell
        have fe := Be.free
        have le_W11 := Be.lt
        have cf := Bf.cell
        have ff := Bf.free
        have lf_W11 := Bf.lt
        have cg := Bg.cell
        have fg := Bg.free
        have lg_W11 := Bg.lt
        have kaW11 : Acc w W11 := by
          refine Acc.call ?_ hb
          (repeat' (first | (with_reducible first | assumption | exact Acc.refl _ | refine Acc.alloc ?_ _ | refine Acc.setCell ?_ ?_ _) | (refine leB ?_; omega)))
        clear hb
        go_wp2_with fail
        obtain ⟨⟨s1, s2, s3⟩, hv⟩ : ∃ o, partsR (sumF 1 c1 c2 c3 d1 d2 d3) = o := ⟨_, rfl⟩
        obtain ⟨ks, hk⟩ : ∃ k, okR (sumF 1 c1 c2 c3 d1 d2 d3) = k := ⟨_, rfl⟩
        obtain ⟨hs1, hs2, hs3⟩ := parts_i64 (fun _ _ _ h => sum_ok h) hv
        have HV := Lib.hid hv
        have HK := Lib.hid hk
        clear hv hk
        refine (gave_any HV.out HK.out (implAdd_any c1 c2 c3 d1 d2 d3 hc1 hc2 hc3 hd1 hd2 hd3 _ (HL.out _ (by repeat' (first | (with_reducible first | assumption | exact Acc.refl _ | refine Acc.alloc ?_ _ | refine Acc.setCell ?_ ?_ _) | (refine leB ?_; omega)))))).mono ?_
        rintro e W12 ⟨rfl, hb⟩
        obtain ⟨Ba, Bb, Bo, Bw, Bx, Bm, Bl1, Bc1, Bd, Be, Bf, Bg, Bt⟩ : Blk W12 (W0.heap.size) [.int .i64 x1, .int .i64 x2, .int .i64 x3, .int .i64 y1, .int .i64 y2, .int .i64 y3] ∧ Blk W12 (W0.heap.size + 1) [.int .i64 a1, .int .i64 a2, .int .i64 a3, .int .i64 b1, .int .i64 b2, .int .i64 b3] ∧ Blk W12 (W1.heap.size) [.int .i64 u1, .int .i64 u2, .int .i64 u3, .int .i64 v1, .int .i64 v2, .int .i64 v3] ∧ Blk W12 (W2.heap.size) [.int .i64 u1, .int .i64 u2, .int .i64 u3, .int .i64 v1, .int .i64 v2, .int .i64 v3] ∧ Blk W12 (W3.heap.size) [.int .i64 u1, .int .i64 u2, .int .i64 u3, .int .i64 v1, .int .i64 v2, .int .i64 v3] ∧ Blk W12 (W4.heap.size) [.int .i64 (-a1), .int .i64 (-a2), .int .i64 a3, .int .i64 (-b1), .int .i64 (-b2), .int .i64 b3] ∧ Blk W12 (W5.heap.size) [.int .i64 m1, .int .i64 m2, .int .i64 m3, .int .i64 n1, .int .i64 n2, .int .i64 n3] ∧ Blk W12 (W6.heap.size) [.int .i64 c1, .int .i64 c2, .int .i64 c3] ∧ Blk W12 (W7.heap.size) [.int .i64 d1, .int .i64 d2, .int .i64 d3] ∧ Blk W12 (W8.heap.size) [.int .i64 e1, .int .i64 e2, .int .i64 e3] ∧ Blk W12 (W9.heap.size) [.int .i64 0, .int .i64 0, .int .i64 0] ∧ Blk W12 (W10.heap.size) [.int .i64 g1, .int .i64 g2, .int .i64 g3] ∧ Blk W12 (W11.heap.size) [.int .i64 t1, .int .i64 t2, .int .i64 t3] := by
          refine ⟨?_, ?_, ?_, ?_, ?_, ?_, ?_, ?_, ?_, ?_, ?_, ?_, ?_⟩ <;> refine Blk.keep hb ?_ <;> (repeat' (first | (with_reducible first | assumption | apply Blk.set | (refine Blk.new ?_; focus (first | rfl | (simp; done))) | refine Blk.alloc ?_ _ | refine Blk.other ?_ ?_ _) | exact eqL rfl | (refine neB ?_; omega)))
        have ca := Ba.cell
        have fa := Ba.free
        have la_W12 := Ba.lt
        have cb := Bb.cell
        have fb := Bb.free
        have lb_W12 := Bb.lt
        have co := Bo.cell
        have fo := Bo.free
        have lo_W12 := Bo.lt
        have cw := Bw.cell
        have fw := Bw.free
        have lw_W12 := Bw.lt
        have cx := Bx.cell
        have fx := Bx.free
        have lx_W12 := Bx.lt
        have cm := Bm.cell
        have fm := Bm.free
        have lm_W12 := Bm.lt
        have cl1 := Bl1.cell
        have fl1 := Bl1.free
        have ll1_W12 := Bl1.lt
        have cc1 := Bc1.cell
        have fc1 := Bc1.free
        have lc1_W12 := Bc1.lt
        have cd := Bd.cell
        have fd := Bd.free
        have ld_W12 := Bd.lt
        have ce := Be.cell
        have fe := Be.free
        have le_W12 := Be.lt
        have cf := Bf.cell
        have ff := Bf.free
        have lf_W12 := Bf.lt
        have cg := Bg.cell
        have fg := Bg.free
        have lg_W12 := Bg.lt
        have ct := Bt.cell
        have ft := Bt.free
        have lt_W12 := Bt.lt
        have kaW12 : Acc w W12 := by
          refine Acc.call ?_ hb
          (repeat' (first | (with_reducible first | assumption | exact Acc.refl _ | refine Acc.alloc ?_ _ | refine Acc.setCell ?_ ?_ _) | (refine leB ?_; omega)))
        clear hb
        go_wp2_with fail
        all_goals
          go_ret
          refine ⟨by first | rfl | (simp [*]; done) | (simp [go_sem, *]; done), ?_⟩
          show Acc w _
          (repeat' (first | (with_reducible first | assumption | exact Acc.refl _ | refine Acc.alloc ?_ _ | refine Acc.setCell ?_ ?_ _) | (refine leB ?_; omega)))
       | some v =>
        obtain ⟨f1, f2, f3⟩ := v
        obtain ⟨hf1, hf2, hf3⟩ := okF_i64 (jpow_ok ht)
        have HF := Lib.hid ht
        clear ht
        refine (gave_some HF.out (implJPower_any a1 a2 a3 b1 b2 b3 ha1 ha2 ha3 hb1 hb2 hb3 _ (HL.out _ (by repeat' (first | (with_reducible first | assumption | exact Acc.refl _ | refine Acc.alloc ?_ _ | refine Acc.setCell ?_ ?_ _) | (refine leB ?_; omega)))))).mono ?_
        rintro e W9 ⟨rfl, hb⟩
        obtain ⟨Ba, Bb, Bo, Bw, Bx, Bm, Bl1, Bc1, Bd, Be⟩ : Blk W9 (W0.heap.size) [.int .i64 x1, .int .i64 x2, .int .i64 x3, .int .i64 y1, .int .i64 y2, .int .i64 y3] ∧ Blk W9 (W0.heap.size + 1) [.int .i64 a1, .int .i64 a2, .int .i64 a3, .int .i64 b1, .int .i64 b2, .int .i64 b3] ∧ Blk W9 (W1.heap.size) [.int .i64 u1, .int .i64 u2, .int .i64 u3, .int .i64 v1, .int .i64 v2, .int .i64 v3] ∧ Blk W9 (W2.heap.size) [.int .i64 u1, .int .i64 u2, .int .i64 u3, .int .i64 v1, .int .i64 v2, .int .i64 v3] ∧ Blk W9 (W3.heap.size) [.int .i64 u1, .int .i64 u2, .int .i64 u3, .int .i64 v1, .int .i64 v2, .int .i64 v3] ∧ Blk W9 (W4.heap.size) [.int .i64 (-a1), .int .i64 (-a2), .int .i64 a3, .int .i64 (-b1), .int .i64 (-b2), .int .i64 b3] ∧ Blk W9 (W5.heap.size) [.int .i64 m1, .int .i64 m2, .int .i64 m3, .int .i64 n1, .int .i64 n2, .int .i64 n3] ∧ Blk W9 (W6.heap.size) [.int .i64 c1, .int .i64 c2, .int .i64 c3] ∧ Blk W9 (W7.heap.size) [.int .i64 d1, .int .i64 d2, .int .i64 d3] ∧ Blk W9 (W8.heap.size) [.int .i64 e1, .int .i64 e2, .int .i64 e3] := by
          refine ⟨?_, ?_, ?_, ?_, ?_, ?_, ?_, ?_, ?_, ?_⟩ <;> refine Blk.keep hb ?_ <;> (repeat' (first | (with_reducible first | assumption | apply Blk.set | (refine Blk.new ?_; focus (first | rfl | (simp; done))) | refine Blk.alloc ?_ _ | refine Blk.other ?_ ?_ _) | exact eqL rfl | (refine neB ?_; omega)))
        have ca := Ba.cell
        have fa := Ba.free
        have la_W9 := Ba.lt
        have cb := Bb.cell
        have fb := Bb.free
        have lb_W9 := Bb.lt
        have co := Bo.cell
        have fo := Bo.free
        have lo_W9 := Bo.lt
        have cw := Bw.cell
        have fw := Bw.free
        have lw_W9 := Bw.lt
        have cx := Bx.cell
        have fx := Bx.free
        have lx_W9 := Bx.lt
        have cm := Bm.cell
        have fm := Bm.free
        have lm_W9 := Bm.lt
        have cl1 := Bl1.cell
        have fl1 := Bl1.free
        have ll1_W9 := Bl1.lt
        have cc1 := Bc1.cell
        have fc1 := Bc1.free
        have lc1_W9 := Bc1.lt
        have cd := Bd.cell
        have fd := Bd.free
        have ld_W9 := Bd.lt
        have ce := Be.cell
        have fe := Be.free
        have le_W9 := Be.lt
        have kaW9 : Acc w W9 := by
          refine Acc.call ?_ hb
          (repeat' (first | (with_reducible first | assumption | exact Acc.refl _ | refine Acc.alloc ?_ _ | refine Acc.setCell ?_ ?_ _) | (refine leB ?_; omega)))
        clear hb
        go_wp2_with fail
        cases ht : sumF 1 e1 e2 e3 f1 f2 f3 with
        | none =>
         have HG := Lib.hid ht
         clear ht
         refine (gave_none HG.out (implAdd_any e1 e2 e3 f1 f2 f3 he1 he2 he3 hf1 hf2 hf3 _ (HL.out _ (by repeat' (first | (with_reducible first | assumption | exact Acc.refl _ | refine Acc.alloc ?_ _ | refine Acc.setCell ?_ ?_ _) | (refine leB ?_; omega)))))).mono ?_
         rintro e W10 ⟨rfl, hb⟩
         obtain ⟨Ba, Bb, Bo, Bw, Bx, Bm, Bl1, Bc1, Bd, Be, Bf⟩ : Blk W10 (W0.heap.size) [.int .i64 x1, .int .i64 x2, .int .i64 x3, .int .i64 y1, .int .i64 y2, .int .i64 y3] ∧ Blk W10 (W0.heap.size + 1) [.int .i64 a1, .int .i64 a2, .int .i64 a3, .int .i64 b1, .int .i64 b2, .int .i64 b3] ∧ Blk W10 (W1.heap.size) [.int .i64 u1, .int .i64 u2, .int .i64 u3, .int .i64 v1, .int .i64 v2, .int .i64 v3] ∧ Blk W10 (W2.heap.size) [.int .i64 u1, .int .i64 u2, .int .i64 u3, .int .i64 v1, .int .i64 v2, .int .i64 v3] ∧ Blk W10 (W3.heap.size) [.int .i64 u1, .int .i64 u2, .int .i64 u3, .int .i64 v1, .int .i64 v2, .int .i64 v3] ∧ Blk W10 (W4.heap.size) [.int .i64 (-a1), .int .i64 (-a2), .int .i64 a3, .int .i64 (-b1), .int .i64 (-b2), .int .i64 b3] ∧ Blk W10 (W5.heap.size) [.int .i64 m1, .int .i64 m2, .int .i64 m3, .int .i64 n1, .int .i64 n2, .int .i64 n3] ∧ Blk W10 (W6.heap.size) [.int .i64 c1, .int .i64 c2, .int .i64 c3] ∧ Blk W10 (W7.heap.size) [.int .i64 d1, .int .i64 d2, .int .i64 d3] ∧ Blk W10 (W8.heap.size) [.int .i64 e1, .int .i64 e2, .int .i64 e3] ∧ Blk W10 (W9.heap.size) [.int .i64 f1, .int .i64 f2, .int .i64 f3] := by
           refine ⟨?_, ?_, ?_, ?_, ?_, ?_, ?_, ?_, ?_, ?_, ?_⟩ <;> refine Blk.keep hb ?_ <;> (repeat' (first | (with_reducible first | assumption | apply Blk.set | (refine Blk.new ?_; focus (first | rfl | (simp; done))) | refine Blk.alloc ?_ _ | refine Blk.other ?_ ?_ _) | exact eqL rfl | (refine neB ?_; omega)))
         have ca := Ba.cell
         have fa := Ba.free
         have la_W10 := Ba.lt
         have cb := Bb.cell
         have fb := Bb.free
         have lb_W10 := Bb.lt
         have co := Bo.cell
         have fo := Bo.free
         have lo_W10 := Bo.lt
         have cw := Bw.cell
         have fw := Bw.free
         have lw_W10 := Bw.lt
         have cx := Bx.cell
         have fx := Bx.free
         have lx_W10 := Bx.lt
         have cm := Bm.cell
         have fm := Bm.free
         have lm_W10 := Bm.lt
         have cl1 := Bl1.cell
         have fl1 := Bl1.free
         have ll1_W10 := Bl1.lt
         have cc1 := Bc1.cell
         have fc1 := Bc1.free
         have lc1_W10 := Bc1.lt
         have cd := Bd.cell
         have fd := Bd.free
         have ld_W10 := Bd.lt
         have ce := Be.cell
         have fe := Be.free
         have le_W10 := Be.lt
         have cf := Bf.cell
         have ff := Bf.free
         have lf_W10 := Bf.lt
         have kaW10 : Acc w W10 := by
           refine Acc.call ?_ hb
           (repeat' (first | (with_reducible first | assumption | exact Acc.refl _ | refine Acc.alloc ?_ _ | refine Acc.setCell ?_ ?_ _) | (refine leB ?_; omega)))
         clear hb
         go_wp2_with fail
         obtain ⟨⟨t1, t2, t3⟩, hv⟩ : ∃ o, partsR (sumF 1 0 0 0 0 0 0) = o := ⟨_, rfl⟩
         obtain ⟨kt, hk⟩ : ∃ k, okR (sumF 1 0 0 0 0 0 0) = k := ⟨_, rfl⟩
         obtain ⟨ht1, ht2, ht3⟩ := parts_i64 (fun _ _ _ h => sum_ok h) hv
         have HV := Lib.hid hv
         have HK := Lib.hid hk
         clear hv hk
         refine (gave_any HV.out HK.out (implAdd_any 0 0 0 0 0 0 i64_0 i64_0 i64_0 i64_0 i64_0 i64_0 _ (HL.out _ (by repeat' (first | (with_reducible first | assumption | exact Acc.refl _ | refine Acc.alloc ?_ _ | refine Acc.setCell ?_ ?_ _) | (refine leB ?_; omega)))))).mono ?_
         rintro e W11 ⟨rfl, hb⟩
         obtain ⟨Ba, Bb, Bo, Bw, Bx, Bm, Bl1, Bc1, Bd, Be, Bf, Bg⟩ : Blk W11 (W0.heap.size) [.int .i64 x1, .int .i64 x2, .int .i64 x3, .int .i64 y1, .int .i64 y2, .int .i64 y3] ∧ Blk W11 (W0.heap.size + 1) [.int .i64 a1, .int .i64 a2, .int .i64 a3, .int .i64 b1, .int .i64 b2, .int .i64 b3] ∧ Blk W11 (W1.heap.size) [.int .i64 u1, .int .i64 u2, .int .i64 u3, .int .i64 v1, .int .i64 v2, .int .i64 v3] ∧ Blk W11 (W2.heap.size) [.int .i64 u1, .int .i64 u2, .int .i64 u3, .int .i64 v1, .int .i64 v2, .int .i64 v3] ∧ Blk W11 (W3.heap.size) [.int .i64 u1, .int .i64 u2, .int .i64 u3, .int .i64 v1, .int .i64 v2, .int .i64 v3] ∧ Blk W11 (W4.heap.size) [.int .i64 (-a1), .int .i64 (-a2), .int .i64 a3, .int .i64 (-b1), .int .i64 (-b2), .int .i64 b3] ∧ Blk W11 (W5.heap.size) [.int .i64 m1, .int .i64 m2, .int .i64 m3, .int .i64 n1, .int .i64 n2, .int .i64 n3] ∧ Blk W11 (W6.heap.size) [.int .i64 c1, .int .i64 c2, .int .i64 c3] ∧ Blk W11 (W7.heap.size) [.int .i64 d1, .int .i64 d2, .int .i64 d3] ∧ Blk W11 (W8.heap.size) [.int .i64 e1, .int .i64 e2, .int .i64 e3] ∧ Blk W11 (W9.heap.size) [.int .i64 f1, .int .i64 f2, .int .i64 f3] ∧ Blk W11 (W10.heap.size) [.int .i64 0, .int .i64 0, .int .i64 0] := by
           refine ⟨?_, ?_, ?_, ?_, ?_, ?_, ?_, ?_, ?_, ?_, ?_, ?_⟩ <;> refine Blk.keep hb ?_ <;> (repeat' (first | (with_reducible first | assumption | apply Blk.set | (refine Blk.new ?_; focus (first | rfl | (simp; done))) | refine Blk.alloc ?_ _ | refine Blk.other ?_ ?_ _) | exact eqL rfl | (refine neB ?_; omega)))
         have ca := Ba.cell
         have fa := Ba.free
         have la_W11 := Ba.lt
         have cb := Bb.cell
         have fb := Bb.free
         have lb_W11 := Bb.lt
         have co := Bo.cell
         have fo := Bo.free
         have lo_W11 := Bo.lt
         have cw := Bw.cell
         have fw := Bw.free
         have lw_W11 := Bw.lt
         have cx := Bx.cell
         have fx := Bx.free
         have lx_W11 := Bx.lt
         have cm := Bm.cell
         have fm := Bm.free
         have lm_W11 := Bm.lt
         have cl1 := Bl1.cell
         have fl1 := Bl1.free
         have ll1_W11 := Bl1.lt
         have cc1 := Bc1.cell
         have fc1 := Bc1.free
         have lc1_W11 := Bc1.lt
         have cd := Bd.cell
         have fd := Bd.free
         have ld_W11 := Bd.lt
         have ce := Be.cell
         have fe := Be.free
         have le_W11 := Be.lt
         have cf := Bf.cell
         have ff := Bf.free
         have lf_W11 := Bf.lt
         have cg := Bg.cell
         have fg := Bg.free
         have lg_W11 := Bg.lt
         have kaW11 : Acc w W11 := by
           refine Acc.call ?_ hb
           (repeat' (first | (with_reducible first | assumption | exact Acc.refl _ | refine Acc.alloc ?_ _ | refine Acc.setCell ?_ ?_ _) | (refine leB ?_; omega)))
         clear hb
         go_wp2_with fail
         obtain ⟨⟨s1, s2, s3⟩, hv⟩ : ∃ o, partsR (sumF 1 c1 c2 c3 d1 d2 d3) = o := ⟨_, rfl⟩
         obtain ⟨ks, hk⟩ : ∃ k, okR (sumF 1 c1 c2 c3 d1 d2 d3) = k := ⟨_, rfl⟩
         obtain ⟨hs1, hs2, hs3⟩ := parts_i64 (fun _ _ _ h => sum_ok h) hv
         have HV := Lib.hid hv
         have HK := Lib.hid hk
         clear hv hk
         refine (gave_any HV.out HK.out (implAdd_any c1 c2 c3 d1 d2 d3 hc1 hc2 hc3 hd1 hd2 hd3 _ (HL.out _ (by repeat' (first | (with_reducible first | assumption | exact Acc.refl _ | refine Acc.alloc ?_ _ | refine Acc.setCell ?_ ?_ _) | (refine leB ?_; omega)))))).mono ?_
         rintro e W12 ⟨rfl, hb⟩
         obtain ⟨Ba, Bb, Bo, Bw, Bx, Bm, Bl1, Bc1, Bd, Be, Bf, Bg, Bt⟩ : Blk W12 (W0.heap.size) [.int .i64 x1, .int .i64 x2, .int .i64 x3, .int .i64 y1, .int .i64 y2, .int .i64 y3] ∧ Blk W12 (W0.heap.size + 1) [.int .i64 a1, .int .i64 a2, .int .i64 a3, .int .i64 b1, .int .i64 b2, .int .i64 b3] ∧ Blk W12 (W1.heap.size) [.int .i64 u1, .int .i64 u2, .int .i64 u3, .int .i64 v1, .int .i64 v2, .int .i64 v3] ∧ Blk W12 (W2.heap.size) [.int .i64 u1, .int .i64 u2, .int .i64 u3, .int .i64 v1, .int .i64 v2, .int .i64 v3] ∧ Blk W12 (W3.heap.size) [.int .i64 u1, .int .i64 u2, .int .i64 u3, .int .i64 v1, .int .i64 v2, .int .i64 v3] ∧ Blk W12 (W4.heap.size) [.int .i64 (-a1), .int .i64 (-a2), .int .i64 a3, .int .i64 (-b1), .int .i64 (-b2), .int .i64 b3] ∧ Blk W12 (W5.heap.size) [.int .i64 m1, .int .i64 m2, .int .i64 m3, .int .i64 n1, .int .i64 n2, .int .i64 n3] ∧ Blk W12 (W6.heap.size) [.int .i64 c1, .int .i64 c2, .int .i64 c3] ∧ Blk W12 (W7.heap.size) [.int .i64 d1, .int .i64 d2, .int .i64 d3] ∧ Blk W12 (W8.heap.size) [.int .i64 e1, .int .i64 e2, .int .i64 e3] ∧ Blk W12 (W9.heap.size) [.int .i64 f1, .int .i64 f2, .int .i64 f3] ∧ Blk W12 (W10.heap.size) [.int .i64 0, .int .i64 0, .int .i64 0] ∧ Blk W12 (W11.heap.size) [.int .i64 t1, .int .i64 t2, .int .i64 t3] := by
           refine ⟨?_, ?_, ?_, ?_, ?_, ?_, ?_, ?_, ?_, ?_, ?_, ?_, ?_⟩ <;> refine Blk.keep hb ?_ <;> (repeat' (first | (with_reducible first | assumption | apply Blk.set | (refine Blk.new ?_; focus (first | rfl | (simp; done))) | refine Blk.alloc ?_ _ | refine Blk.other ?_ ?_ _) | exact eqL rfl | (refine neB ?_; omega)))
         have ca := Ba.cell
         have fa := Ba.free
         have la_W12 := Ba.lt
         have cb := Bb.cell
         have fb := Bb.free
         have lb_W12 := Bb.lt
         have co := Bo.cell
         have fo := Bo.free
         have lo_W12 := Bo.lt
         have cw := Bw.cell
         have fw := Bw.free
         have lw_W12 := Bw.lt
         have cx := Bx.cell
         have fx := Bx.free
         have lx_W12 := Bx.lt
         have cm := Bm.cell
         have fm := Bm.free
         have lm_W12 := Bm.lt
         have cl1 := Bl1.cell
         have fl1 := Bl1.free
         have ll1_W12 := Bl1.lt
         have cc1 := Bc1.cell
         have fc1 := Bc1.free
         have lc1_W12 := Bc1.lt
         have cd := Bd.cell
         have fd := Bd.free
         have ld_W12 := Bd.lt
         have ce := Be.cell
         have fe := Be.free
         have le_W12 := Be.lt
         have cf := Bf.cell
         have ff := Bf.free
         have lf_W12 := Bf.lt
         have cg := Bg.cell
         have fg := Bg.free
         have lg_W12 := Bg.lt
         have ct := Bt.cell
         have ft := Bt.free
         have lt_W12 := Bt.lt
         have kaW12 : Acc w W12 := by
           refine Acc.call ?_ hb
           (repeat' (first | (with_reducible first | assumption | exact Acc.refl _ | refine Acc.alloc ?_ _ | refine Acc.setCell ?_ ?_ _) | (refine leB ?_; omega)))
         clear hb
         go_wp2_with fail
         all_goals
           go_ret
           refine ⟨by first | rfl | (simp [*]; done) | (simp [go_sem, *]; done), ?_⟩
           show Acc w _
           (repeat' (first | (with_reducible first | assumption | exact Acc.refl _ | refine Acc.alloc ?_ _ | refine Acc.setCell ?_ ?_ _) | (refine leB ?_; omega)))
        | some v =>
         obtain ⟨g1, g2, g3⟩ := v
         obtain ⟨hg1, hg2, hg3⟩ := okF_i64 (sum_ok ht)
         have HG := Lib.hid ht
         clear ht
         refine (gave_some HG.out (implAdd_any e1 e2 e3 f1 f2 f3 he1 he2 he3 hf1 hf2 hf3 _ (HL.out _ (by repeat' (first | (with_reducible first | assumption | exact Acc.refl _ | refine Acc.alloc ?_ _ | refine Acc.setCell ?_ ?_ _) | (refine leB ?_; omega)))))).mono ?_
         rintro e W10 ⟨rfl, hb⟩
         obtain ⟨Ba, Bb, Bo, Bw, Bx, Bm, Bl1, Bc1, Bd, Be, Bf⟩ : Blk W10 (W0.heap.size) [.int .i64 x1, .int .i64 x2, .int .i64 x3, .int .i64 y1, .int .i64 y2, .int .i64 y3] ∧ Blk W10 (W0.heap.size + 1) [.int .i64 a1, .int .i64 a2, .int .i64 a3, .int .i64 b1, .int .i64 b2, .int .i64 b3] ∧ Blk W10 (W1.heap.size) [.int .i64 u1, .int .i64 u2, .int .i64 u3, .int .i64 v1, .int .i64 v2, .int .i64 v3] ∧ Blk W10 (W2.heap.size) [.int .i64 u1, .int .i64 u2, .int .i64 u3, .int .i64 v1, .int .i64 v2, .int .i64 v3] ∧ Blk W10 (W3.heap.size) [.int .i64 u1, .int .i64 u2, .int .i64 u3, .int .i64 v1, .int .i64 v2, .int .i64 v3] ∧ Blk W10 (W4.heap.size) [.int .i64 (-a1), .int .i64 (-a2), .int .i64 a3, .int .i64 (-b1), .int .i64 (-b2), .int .i64 b3] ∧ Blk W10 (W5.heap.size) [.int .i64 m1, .int .i64 m2, .int .i64 m3, .int .i64 n1, .int .i64 n2, .int .i64 n3] ∧ Blk W10 (W6.heap.size) [.int .i64 c1, .int .i64 c2, .int .i64 c3] ∧ Blk W10 (W7.heap.size) [.int .i64 d1, .int .i64 d2, .int .i64 d3] ∧ Blk W10 (W8.heap.size) [.int .i64 e1, .int .i64 e2, .int .i64 e3] ∧ Blk W10 (W9.heap.size) [.int .i64 f1, .int .i64 f2, .int .i64 f3] := by
           refine ⟨?_, ?_, ?_, ?_, ?_, ?_, ?_, ?_, ?_, ?_, ?_⟩ <;> refine Blk.keep hb ?_ <;> (repeat' (first | (with_reducible first | assumption | apply Blk.set | (refine Blk.new ?_; focus (first | rfl | (simp; done))) | refine Blk.alloc ?_ _ | refine Blk.other ?_ ?_ _) | exact eqL rfl | (refine neB ?_; omega)))
         have ca := Ba.cell
         have fa := Ba.free
         have la_W10 := Ba.lt
         have cb := Bb.cell
         have fb := Bb.free
         have lb_W10 := Bb.lt
         have co := Bo.cell
         have fo := Bo.free
         have lo_W10 := Bo.lt
         have cw := Bw.cell
         have fw := Bw.free
         have lw_W10 := Bw.lt
         have cx := Bx.cell
         have fx := Bx.free
         have lx_W10 := Bx.lt
         have cm := Bm.cell
         have fm := Bm.free
         have lm_W10 := Bm.lt
         have cl1 := Bl1.cell
         have fl1 := Bl1.free
         have ll1_W10 := Bl1.lt
         have cc1 := Bc1.cell
         have fc1 := Bc1.free
         have lc1_W10 := Bc1.lt
         have cd := Bd.cell
         have fd := Bd.free
         have ld_W10 := Bd.lt
         have ce := Be.cell
         have fe := Be.free
         have le_W10 := Be.lt
         have cf := Bf.cell
         have ff := Bf.free
         have lf_W10 := Bf.lt
         have kaW10 : Acc w W10 := by
           refine Acc.call ?_ hb
           (repeat' (first | (with_reducible first | assumption | exact Acc.refl _ | refine Acc.alloc ?_ _ | refine Acc.setCell ?_ ?_ _) | (refine leB ?_; omega)))
         clear hb
         go_wp2_with fail
         cases ht : sumF 1 g1 g2 g3 g1 g2 g3 with
         | none =>
          have HT := Lib.hid ht
          clear ht
          refine (gave_none HT.out (implAdd_any g1 g2 g3 g1 g2 g3 hg1 hg2 hg3 hg1 hg2 hg3 _ (HL.out _ (by repeat' (first | (with_reducible first | assumption | exact Acc.refl _ | refine Acc.alloc ?_ _ | refine Acc.setCell ?_ ?_ _) | (refine leB ?_; omega)))))).mono ?_
          rintro e W11 ⟨rfl, hb⟩
          obtain ⟨Ba, Bb, Bo, Bw, Bx, Bm, Bl1, Bc1, Bd, Be, Bf, Bg⟩ : Blk W11 (W0.heap.size) [.int .i64 x1, .int .i64 x2, .int .i64 x3, .int .i64 y1, .int .i64 y2, .int .i64 y3] ∧ Blk W11 (W0.heap.size + 1) [.int .i64 a1, .int .i64 a2, .int .i64 a3, .int .i64 b1, .int .i64 b2, .int .i64 b3] ∧ Blk W11 (W1.heap.size) [.int .i64 u1, .int .i64 u2, .int .i64 u3, .int .i64 v1, .int .i64 v2, .int .i64 v3] ∧ Blk W11 (W2.heap.size) [.int .i64 u1, .int .i64 u2, .int .i64 u3, .int .i64 v1, .int .i64 v2, .int .i64 v3] ∧ Blk W11 (W3.heap.size) [.int .i64 u1, .int .i64 u2, .int .i64 u3, .int .i64 v1, .int .i64 v2, .int .i64 v3] ∧ Blk W11 (W4.heap.size) [.int .i64 (-a1), .int .i64 (-a2), .int .i64 a3, .int .i64 (-b1), .int .i64 (-b2), .int .i64 b3] ∧ Blk W11 (W5.heap.size) [.int .i64 m1, .int .i64 m2, .int .i64 m3, .int .i64 n1, .int .i64 n2, .int .i64 n3] ∧ Blk W11 (W6.heap.size) [.int .i64 c1, .int .i64 c2, .int .i64 c3] ∧ Blk W11 (W7.heap.size) [.int .i64 d1, .int .i64 d2, .int .i64 d3] ∧ Blk W11 (W8.heap.size) [.int .i64 e1, .int .i64 e2, .int .i64 e3] ∧ Blk W11 (W9.heap.size) [.int .i64 f1, .int .i64 f2, .int .i64 f3] ∧ Blk W11 (W10.heap.size) [.int .i64 g1, .int .i64 g2, .int .i64 g3] := by
            refine ⟨?_, ?_, ?_, ?_, ?_, ?_, ?_, ?_, ?_, ?_, ?_, ?_⟩ <;> refine Blk.keep hb ?_ <;> (repeat' (first | (with_reducible first | assumption | apply Blk.set | (refine Blk.new ?_; focus (first | rfl | (simp; done))) | refine Blk.alloc ?_ _ | refine Blk.other ?_ ?_ _) | exact eqL rfl | (refine neB ?_; omega)))
          have ca := Ba.cell
          have fa := Ba.free
          have la_W11 := Ba.lt
          have cb := Bb.cell
          have fb := Bb.free
          have lb_W11 := Bb.lt
          have co := Bo.cell
          have fo := Bo.free
          have lo_W11 := Bo.lt
          have cw := Bw.cell
          have fw := Bw.free
          have lw_W11 := Bw.lt
          have cx := Bx.cell
          have fx := Bx.free
          have lx_W11 := Bx.lt
          have cm := Bm.cell
          have fm := Bm.free
          have lm_W11 := Bm.lt
          have cl1 := Bl1.cell
          have fl1 := Bl1.free
          have ll1_W11 := Bl1.lt
          have cc1 := Bc1.cell
          have fc1 := Bc1.free
          have lc1_W11 := Bc1.lt
          have cd := Bd.cell
          have fd := Bd.free
          have ld_W11 := Bd.lt
          have ce := Be.cell
          have fe := Be.free
          have le_W11 := Be.lt
          have cf := Bf.cell
          have ff := Bf.free
          have lf_W11 := Bf.lt
          have cg := Bg.cell
          have fg := Bg.free
          have lg_W11 := Bg.lt
          have kaW11 : Acc w W11 := by
            refine Acc.call ?_ hb
            (repeat' (first | (with_reducible first | assumption | exact Acc.refl _ | refine Acc.alloc ?_ _ | refine Acc.setCell ?_ ?_ _) | (refine leB ?_; omega)))
          clear hb
          go_wp2_with fail
          obtain ⟨⟨s1, s2, s3⟩, hv⟩ : ∃ o, partsR (sumF 1 c1 c2 c3 d1 d2 d3) = o := ⟨_, rfl⟩
          obtain ⟨ks, hk⟩ : ∃ k, okR (sumF 1 c1 c2 c3 d1 d2 d3) = k := ⟨_, rfl⟩
          obtain ⟨hs1, hs2, hs3⟩ := parts_i64 (fun _ _ _ h => sum_ok h) hv
          have HV := Lib.hid hv
          have HK := Lib.hid hk
          clear hv hk
          refine (gave_any HV.out HK.out (implAdd_any c1 c2 c3 d1 d2 d3 hc1 hc2 hc3 hd1 hd2 hd3 _ (HL.out _ (by repeat' (first | (with_reducible first | assumption | exact Acc.refl _ | refine Acc.alloc ?_ _ | refine Acc.setCell ?_ ?_ _) | (refine leB ?_; omega)))))).mono ?_
          rintro e W12 ⟨rfl, hb⟩
          obtain ⟨Ba, Bb, Bo, Bw, Bx, Bm, Bl1, Bc1, Bd, Be, Bf, Bg, Bt⟩ : Blk W12 (W0.heap.size) [.int .i64 x1, .int .i64 x2, .int .i64 x3, .int .i64 y1, .int .i64 y2, .int .i64 y3] ∧ Blk W12 (W0.heap.size + 1) [.int .i64 a1, .int .i64 a2, .int .i64 a3, .int .i64 b1, .int .i64 b2, .int .i64 b3] ∧ Blk W12 (W1.heap.size) [.int .i64 u1, .int .i64 u2, .int .i64 u3, .int .i64 v1, .int .i64 v2, .int .i64 v3] ∧ Blk W12 (W2.heap.size) [.int .i64 u1, .int .i64 u2, .int .i64 u3, .int .i64 v1, .int .i64 v2, .int .i64 v3] ∧ Blk W12 (W3.heap.size) [.int .i64 u1, .int .i64 u2, .int .i64 u3, .int .i64 v1, .int .i64 v2, .int .i64 v3] ∧ Blk W12 (W4.heap.size) [.int .i64 (-a1), .int .i64 (-a2), .int .i64 a3, .int .i64 (-b1), .int .i64 (-b2), .int .i64 b3] ∧ Blk W12 (W5.heap.size) [.int .i64 m1, .int .i64 m2, .int .i64 m3, .int .i64 n1, .int .i64 n2, .int .i64 n3] ∧ Blk W12 (W6.heap.size) [.int .i64 c1, .int .i64 c2, .int .i64 c3] ∧ Blk W12 (W7.heap.size) [.int .i64 d1, .int .i64 d2, .int .i64 d3] ∧ Blk W12 (W8.heap.size) [.int .i64 e1, .int .i64 e2, .int .i64 e3] ∧ Blk W12 (W9.heap.size) [.int .i64 f1, .int .i64 f2, .int .i64 f3] ∧ Blk W12 (W10.heap.size) [.int .i64 g1, .int .i64 g2, .int .i64 g3] ∧ Blk W12 (W11.heap.size) [.int .i64 0, .int .i64 0, .int .i64 0] := by
            refine ⟨?_, ?_, ?_, ?_, ?_, ?_, ?_, ?_, ?_, ?_, ?_, ?_, ?_⟩ <;> refine Blk.keep hb ?_ <;> (repeat' (first | (with_reducible first | assumption | apply Blk.set | (refine Blk.new ?_; focus (first | rfl | (simp; done))) | refine Blk.alloc ?_ _ | refine Blk.other ?_ ?_ _) | exact eqL rfl | (refine neB ?_; omega)))
          have ca := Ba.cell
          have fa := Ba.free
          have la_W12 := Ba.lt
          have cb := Bb.cell
          have fb := Bb.free
          have lb_W12 := Bb.lt
          have co := Bo.cell
          have fo := Bo.free
          have lo_W12 := Bo.lt
          have cw := Bw.cell
          have fw := Bw.free
          have lw_W12 := Bw.lt
          have cx := Bx.cell
          have fx := Bx.free
          have lx_W12 := Bx.lt
          have cm := Bm.cell
          have fm := Bm.free
          have lm_W12 := Bm.lt
          have cl1 := Bl1.cell
          have fl1 := Bl1.free
          have ll1_W12 := Bl1.lt
          have cc1 := Bc1.cell
          have fc1 := Bc1.free
          have lc1_W12 := Bc1.lt
          have cd := Bd.cell
          have fd := Bd.free
          have ld_W12 := Bd.lt
          have ce := Be.cell
          have fe := Be.free
          have le_W12 := Be.lt
          have cf := Bf.cell
          have ff := Bf.free
          have lf_W12 := Bf.lt
          have cg := Bg.cell
          have fg := Bg.free
          have lg_W12 := Bg.lt
          have ct := Bt.cell
          have ft := Bt.free
          have lt_W12 := Bt.lt
          have kaW12 : Acc w W12 := by
            refine Acc.call ?_ hb
            (repeat' (first | (with_reducible first | assumption | exact Acc.refl _ | refine Acc.alloc ?_ _ | refine Acc.setCell ?_ ?_ _) | (refine leB ?_; omega)))
          clear hb
          go_wp2_with fail
          all_goals
            go_ret
            refine ⟨by first | rfl | (simp [*]; done) | (simp [go_sem, *]; done), ?_⟩
            show Acc w _
            (repeat' (first | (with_reducible first | assumption | exact Acc.refl _ | refine Acc.alloc ?_ _ | refine Acc.setCell ?_ ?_ _) | (refine leB ?_; omega)))
         | some v =>
          obtain ⟨t1, t2, t3⟩ := v
          obtain ⟨ht1, ht2, ht3⟩ := okF_i64 (sum_ok ht)
          have HT := Lib.hid ht
          clear ht
          refine (gave_some HT.out (implAdd_any g1 g2 g3 g1 g2 g3 hg1 hg2 hg3 hg1 hg2 hg3 _ (HL.out _ (by repeat' (first | (with_reducible first | assumption | exact Acc.refl _ | refine Acc.alloc ?_ _ | refine Acc.setCell ?_ ?_ _) | (refine leB ?_; omega)))))).mono ?_
          rintro e W11 ⟨rfl, hb⟩
          obtain ⟨Ba, Bb, Bo, Bw, Bx, Bm, Bl1, Bc1, Bd, Be, Bf, Bg⟩ : Blk W11 (W0.heap.size) [.int .i64 x1, .int .i64 x2, .int .i64 x3, .int .i64 y1, .int .i64 y2, .int .i64 y3] ∧ Blk W11 (W0.heap.size + 1) [.int .i64 a1, .int .i64 a2, .int .i64 a3, .int .i64 b1, .int .i64 b2, .int .i64 b3] ∧ Blk W11 (W1.heap.size) [.int .i64 u1, .int .i64 u2, .int .i64 u3, .int .i64 v1, .int .i64 v2, .int .i64 v3] ∧ Blk W11 (W2.heap.size) [.int .i64 u1, .int .i64 u2, .int .i64 u3, .int .i64 v1, .int .i64 v2, .int .i64 v3] ∧ Blk W11 (W3.heap.size) [.int .i64 u1, .int .i64 u2, .int .i64 u3, .int .i64 v1, .int .i64 v2, .int .i64 v3] ∧ Blk W11 (W4.heap.size) [.int .i64 (-a1), .int .i64 (-a2), .int .i64 a3, .int .i64 (-b1), .int .i64 (-b2), .int .i64 b3] ∧ Blk W11 (W5.heap.size) [.int .i64 m1, .int .i64 m2, .int .i64 m3, .int .i64 n1, .int .i64 n2, .int .i64 n3] ∧ Blk W11 (W6.heap.size) [.int .i64 c1, .int .i64 c2, .int .i64 c3] ∧ Blk W11 (W7.heap.size) [.int .i64 d1, .int .i64 d2, .int .i64 d3] ∧ Blk W11 (W8.heap.size) [.int .i64 e1, .int .i64 e2, .int .i64 e3] ∧ Blk W11 (W9.heap.size) [.int .i64 f1, .int .i64 f2, .int .i64 f3] ∧ Blk W11 (W10.heap.size) [.int .i64 g1, .int .i64 g2, .int .i64 g3] := by
            refine ⟨?_, ?_, ?_, ?_, ?_, ?_, ?_, ?_, ?_, ?_, ?_, ?_⟩ <;> refine Blk.keep hb ?_ <;> (repeat' (first | (with_reducible first | assumption | apply Blk.set | (refine Blk.new ?_; focus (first | rfl | (simp; done))) | refine Blk.alloc ?_ _ | refine Blk.other ?_ ?_ _) | exact eqL rfl | (refine neB ?_; omega)))
          have ca := Ba.cell
          have fa := Ba.free
          have la_W11 := Ba.lt
          have cb := Bb.cell
          have fb := Bb.free
          have lb_W11 := Bb.lt
          have co := Bo.cell
          have fo := Bo.free
          have lo_W11 := Bo.lt
          have cw := Bw.cell
          have fw := Bw.free
          have lw_W11 := Bw.lt
          have cx := Bx.cell
          have fx := Bx.free
          have lx_W11 := Bx.lt
          have cm := Bm.cell
          have fm := Bm.free
          have lm_W11 := Bm.lt
          have cl1 := Bl1.cell
          have fl1 := Bl1.free
          have ll1_W11 := Bl1.lt
          have cc1 := Bc1.cell
          have fc1 := Bc1.free
          have lc1_W11 := Bc1.lt
          have cd := Bd.cell
          have fd := Bd.free
          have ld_W11 := Bd.lt
          have ce := Be.cell
          have fe := Be.free
          have le_W11 := Be.lt
          have cf := Bf.cell
          have ff := Bf.free
          have lf_W11 := Bf.lt
          have cg := Bg.cell
          have fg := Bg.free
          have lg_W11 := Bg.lt
          have kaW11 : Acc w W11 := by
            refine Acc.call ?_ hb
            (repeat' (first | (with_reducible first | assumption | exact Acc.refl _ | refine Acc.alloc ?_ _ | refine Acc.setCell ?_ ?_ _) | (refine leB ?_; omega)))
          clear hb
          go_wp2_with fail
          cases ht : sumF 1 c1 c2 c3 d1 d2 d3 with
          | none =>
           have HS := Lib.hid ht
           clear ht
           refine (gave_none HS.out (implAdd_any c1 c2 c3 d1 d2 d3 hc1 hc2 hc3 hd1 hd2 hd3 _ (HL.out _ (by repeat' (first | (with_reducible first | assumption | exact Acc.refl _ | refine Acc.alloc ?_ _ | refine Acc.setCell ?_ ?_ _) | (refine leB ?_; omega)))))).mono ?_
           rintro e W12 ⟨rfl, hb⟩
           obtain ⟨Ba, Bb, Bo, Bw, Bx, Bm, Bl1, Bc1, Bd, Be, Bf, Bg, Bt⟩ : Blk W12 (W0.heap.size) [.int .i64 x1, .int .i64 x2, .int .i64 x3, .int .i64 y1, .int .i64 y2, .int .i64 y3] ∧ Blk W12 (W0.heap.size + 1) [.int .i64 a1, .int .i64 a2, .int .i64 a3, .int .i64 b1, .int .i64 b2, .int .i64 b3] ∧ Blk W12 (W1.heap.size) [.int .i64 u1, .int .i64 u2, .int .i64 u3, .int .i64 v1, .int .i64 v2, .int .i64 v3] ∧ Blk W12 (W2.heap.size) [.int .i64 u1, .int .i64 u2, .int .i64 u3, .int .i64 v1, .int .i64 v2, .int .i64 v3] ∧ Blk W12 (W3.heap.size) [.int .i64 u1, .int .i64 u2, .int .i64 u3, .int .i64 v1, .int .i64 v2, .int .i64 v3] ∧ Blk W12 (W4.heap.size) [.int .i64 (-a1), .int .i64 (-a2), .int .i64 a3, .int .i64 (-b1), .int .i64 (-b2), .int .i64 b3] ∧ Blk W12 (W5.heap.size) [.int .i64 m1, .int .i64 m2, .int .i64 m3, .int .i64 n1, .int .i64 n2, .int .i64 n3] ∧ Blk W12 (W6.heap.size) [.int .i64 c1, .int .i64 c2, .int .i64 c3] ∧ Blk W12 (W7.heap.size) [.int .i64 d1, .int .i64 d2, .int .i64 d3] ∧ Blk W12 (W8.heap.size) [.int .i64 e1, .int .i64 e2, .int .i64 e3] ∧ Blk W12 (W9.heap.size) [.int .i64 f1, .int .i64 f2, .int .i64 f3] ∧ Blk W12 (W10.heap.size) [.int .i64 g1, .int .i64 g2, .int .i64 g3] ∧ Blk W12 (W11.heap.size) [.int .i64 t1, .int .i64 t2, .int .i64 t3] := by
             refine ⟨?_, ?_, ?_, ?_, ?_, ?_, ?_, ?_, ?_, ?_, ?_, ?_, ?_⟩ <;> refine Blk.keep hb ?_ <;> (repeat' (first | (with_reducible first | assumption | apply Blk.set | (refine Blk.new ?_; focus (first | rfl | (simp; done))) | refine Blk.alloc ?_ _ | refine Blk.other ?_ ?_ _) | exact eqL rfl | (refine neB ?_; omega)))
           have ca := Ba.cell
           have fa := Ba.free
           have la_W12 := Ba.lt
           have cb := Bb.cell
           have fb := Bb.free
           have lb_W12 := Bb.lt
           have co := Bo.cell
           have fo := Bo.free
           have lo_W12 := Bo.lt
           have cw := Bw.cell
           have fw := Bw.free
           have lw_W12 := Bw.lt
           have cx := Bx.cell
           have fx := Bx.free
           have lx_W12 := Bx.lt
           have cm := Bm.cell
           have fm := Bm.free
           have lm_W12 := Bm.lt
           have cl1 := Bl1.cell
           have fl1 := Bl1.free
           have ll1_W12 := Bl1.lt
           have cc1 := Bc1.cell
           have fc1 := Bc1.free
           have lc1_W12 := Bc1.lt
           have cd := Bd.cell
           have fd := Bd.free
           have ld_W12 := Bd.lt
           have ce := Be.cell
           have fe := Be.free
           have le_W12 := Be.lt
           have cf := Bf.cell
           have ff := Bf.free
           have lf_W12 := Bf.lt
           have cg := Bg.cell
           have fg := Bg.free
           have lg_W12 := Bg.lt
           have ct := Bt.cell
           have ft := Bt.free
           have lt_W12 := Bt.lt
           have kaW12 : Acc w W12 := by
             refine Acc.call ?_ hb
             (repeat' (first | (with_reducible first | assumption | exact Acc.refl _ | refine Acc.alloc ?_ _ | refine Acc.setCell ?_ ?_ _) | (refine leB ?_; omega)))
           clear hb
           go_wp2_with fail
           all_goals
             go_ret
             refine ⟨by first | rfl | (simp [*]; done) | (simp [go_sem, *]; done), ?_⟩
             show Acc w _
             (repeat' (first | (with_reducible first | assumption | exact Acc.refl _ | refine Acc.alloc ?_ _ | refine Acc.setCell ?_ ?_ _) | (refine leB ?_; omega)))
          | some v =>
           obtain ⟨s1, s2, s3⟩ := v
           obtain ⟨hs1, hs2, hs3⟩ := okF_i64 (sum_ok ht)
           have HS := Lib.hid ht
           clear ht
           refine (gave_some HS.out (implAdd_any c1 c2 c3 d1 d2 d3 hc1 hc2 hc3 hd1 hd2 hd3 _ (HL.out _ (by repeat' (first | (with_reducible first | assumption | exact Acc.refl _ | refine Acc.alloc ?_ _ | refine Acc.setCell ?_ ?_ _) | (refine leB ?_; omega)))))).mono ?_
           rintro e W12 ⟨rfl, hb⟩
           obtain ⟨Ba, Bb, Bo, Bw, Bx, Bm, Bl1, Bc1, Bd, Be, Bf, Bg, Bt⟩ : Blk W12 (W0.heap.size) [.int .i64 x1, .int .i64 x2, .int .i64 x3, .int .i64 y1, .int .i64 y2, .int .i64 y3] ∧ Blk W12 (W0.heap.size + 1) [.int .i64 a1, .int .i64 a2, .int .i64 a3, .int .i64 b1, .int .i64 b2, .int .i64 b3] ∧ Blk W12 (W1.heap.size) [.int .i64 u1, .int .i64 u2, .int .i64 u3, .int .i64 v1, .int .i64 v2, .int .i64 v3] ∧ Blk W12 (W2.heap.size) [.int .i64 u1, .int .i64 u2, .int .i64 u3, .int .i64 v1, .int .i64 v2, .int .i64 v3] ∧ Blk W12 (W3.heap.size) [.int .i64 u1, .int .i64 u2, .int .i64 u3, .int .i64 v1, .int .i64 v2, .int .i64 v3] ∧ Blk W12 (W4.heap.size) [.int .i64 (-a1), .int .i64 (-a2), .int .i64 a3, .int .i64 (-b1), .int .i64 (-b2), .int .i64 b3] ∧ Blk W12 (W5.heap.size) [.int .i64 m1, .int .i64 m2, .int .i64 m3, .int .i64 n1, .int .i64 n2, .int .i64 n3] ∧ Blk W12 (W6.heap.size) [.int .i64 c1, .int .i64 c2, .int .i64 c3] ∧ Blk W12 (W7.heap.size) [.int .i64 d1, .int .i64 d2, .int .i64 d3] ∧ Blk W12 (W8.heap.size) [.int .i64 e1, .int .i64 e2, .int .i64 e3] ∧ Blk W12 (W9.heap.size) [.int .i64 f1, .int .i64 f2, .int .i64 f3] ∧ Blk W12 (W10.heap.size) [.int .i64 g1, .int .i64 g2, .int .i64 g3] ∧ Blk W12 (W11.heap.size) [.int .i64 t1, .int .i64 t2, .int .i64 t3] := by
             refine ⟨?_, ?_, ?_, ?_, ?_, ?_, ?_, ?_, ?_, ?_, ?_, ?_, ?_⟩ <;> refine Blk.keep hb ?_ <;> (repeat' (first | (with_reducible first | assumption | apply Blk.set | (refine Blk.new ?_; focus (first | rfl | (simp; done))) | refine Blk.alloc ?_ _ | refine Blk.other ?_ ?_ _) | exact eqL rfl | (refine neB ?_; omega)))
           have ca := Ba.cell
           have fa := Ba.free
           have la_W12 := Ba.lt
           have cb := Bb.cell
           have fb := Bb.free
           have lb_W12 := Bb.lt
           have co := Bo.cell
           have fo := Bo.free
           have lo_W12 := Bo.lt
           have cw := Bw.cell
           have fw := Bw.free
           have lw_W12 := Bw.lt
           have cx := Bx.cell
           have fx := Bx.free
           have lx_W12 := Bx.lt
           have cm := Bm.cell
           have fm := Bm.free
           have lm_W12 := Bm.lt
           have cl1 := Bl1.cell
           have fl1 := Bl1.free
           have ll1_W12 := Bl1.lt
           have cc1 := Bc1.cell
           have fc1 := Bc1.free
           have lc1_W12 := Bc1.lt
           have cd := Bd.cell
           have fd := Bd.free
           have ld_W12 := Bd.lt
           have ce := Be.cell
           have fe := Be.free
           have le_W12 := Be.lt
           have cf := Bf.cell
           have ff := Bf.free
           have lf_W12 := Bf.lt
           have cg := Bg.cell
           have fg := Bg.free
           have lg_W12 := Bg.lt
           have ct := Bt.cell
           have ft := Bt.free
           have lt_W12 := Bt.lt
           have kaW12 : Acc w W12 := by
             refine Acc.call ?_ hb
             (repeat' (first | (with_reducible first | assumption | exact Acc.refl _ | refine Acc.alloc ?_ _ | refine Acc.setCell ?_ ?_ _) | (refine leB ?_; omega)))
           clear hb
           go_wp2_with fail
           all_goals obtain ⟨⟩ := parallelogram HO.out HL1.out HC1.out HD.out HE.out HF.out HG.out HT.out HS.out
           all_goals try exact absurd rfl (by assumption)
           all_goals
             go_ret
             refine ⟨by first | rfl | (simp [*]; done) | (simp [go_sem, *]; done), ?_⟩
             show Acc w _
             (repeat' (first | (with_reducible first | assumption | exact Acc.refl _ | refine Acc.alloc ?_ _ | refine Acc.setCell ?_ ?_ _) | (refine leB ?_; omega)))
end Go.Proofs.YtbihlkienhbapabDoor
