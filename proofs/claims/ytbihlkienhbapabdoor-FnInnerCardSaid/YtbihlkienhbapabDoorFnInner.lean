/-
  The law of inner products.
-/
import Derived.Test.YtbihlkienhbapabDoorDrawJones
import Derived.Test.YtbihlkienhbapabDoorJonesMath
import Derived.Test.YtbihlkienhbapabDoorGave
import Derived.Test.YtbihlkienhbapabDoorGave6
import Derived.Test.YtbihlkienhbapabDoorImplJ1
import Derived.Test.YtbihlkienhbapabDoorImplJ4
import Derived.Test.YtbihlkienhbapabDoorImplFn
import Derived.Test.YtbihlkienhbapabDoorImplCompare
namespace Go.Proofs.YtbihlkienhbapabDoor
open Go.ChangeShapes Go.WideShapes Go.ChangeAt Go.RowKit
set_option linter.unusedVariables false

set_option maxRecDepth 100000 in
set_option maxHeartbeats 16000000 in
theorem fnInner_law (w : World) (hl : Laid w) (s : Option Addr) (len cap : Nat) (h : Code8 w s len cap) :
    Calls Tryd.prog 5 #[.slice s len cap] w (Fine w) := by
  have hm := h.2.1
  have hl' := h.1
  unfold maxLen at hm
  have HL := Lib.hid fun W (k : Acc w W) => hl.acc k
  clear hl
  by_cases hlen : 1048576 < len
  · clear h
    have hlen' : (1048576 : Int) < (len : Int) := by omega
    go_enter Tryd.func5, Tryd.ntmps5
    go_wp2_with fail
    go_ret
    exact ⟨rfl, Below.refl _ _⟩
  have hlen' : ¬ (1048576 : Int) < (len : Int) := by omega
  go_enter Tryd.func5, Tryd.ntmps5
  go_wp2_with fail
  refine (drawJonesInner_any s len cap w h).mono ?_
  rintro e W0 ⟨x1, x2, x3, y1, y2, y3, a1, a2, a3, b1, b2, b3, rfl, ⟨hx1, hx2, hx3, hy1, hy2, hy3⟩, ⟨ha1, ha2, ha3, hb1, hb2, hb3⟩, hb⟩
  have kaW0 : Acc w W0 := hb
  clear hb h
  go_wp2_with fail
  cases ho : innerF x1 x2 x3 y1 y2 y3 a1 a2 a3 b1 b2 b3 with
  | none =>
   have HO := Lib.hid ho
   clear ho
   refine (gave_none HO.out (implJInner_any x1 x2 x3 y1 y2 y3 a1 a2 a3 b1 b2 b3 hx1 hx2 hx3 hy1 hy2 hy3 ha1 ha2 ha3 hb1 hb2 hb3 _ (HL.out _ (by repeat' (first | (with_reducible first | assumption | exact Acc.refl _ | refine Acc.alloc ?_ _ | refine Acc.setCell ?_ ?_ _) | (refine leB ?_; omega)))))).mono ?_
   rintro e W1 ⟨rfl, hb⟩
   obtain ⟨Ba, Bb⟩ : Blk W1 (W0.heap.size) [.int .i64 x1, .int .i64 x2, .int .i64 x3, .int .i64 y1, .int .i64 y2, .int .i64 y3] ∧ Blk W1 (W0.heap.size + 1) [.int .i64 a1, .int .i64 a2, .int .i64 a3, .int .i64 b1, .int .i64 b2, .int .i64 b3] := by
     refine ⟨?_, ?_⟩ <;> refine Blk.keep hb ?_ <;> (repeat' (first | (with_reducible first | assumption | apply Blk.set | (refine Blk.new ?_; focus (first | rfl | (simp; done))) | refine Blk.alloc ?_ _ | refine Blk.other ?_ ?_ _) | exact eqL rfl | (refine neB ?_; omega)))
   have ca := Ba.cell
   have fa := Ba.free
   have la_W1 := Ba.lt
   have cb := Bb.cell
   have fb := Bb.free
   have lb_W1 := Bb.lt
   have kaW1 : Acc w W1 := by
     refine Acc.call ?_ hb
     (repeat' (first | (with_reducible first | assumption | exact Acc.refl _ | refine Acc.alloc ?_ _ | refine Acc.setCell ?_ ?_ _) | (refine leB ?_; omega)))
   clear hb
   go_wp2_with fail
   refine (gave_none HO.out (specInner_any x1 x2 x3 y1 y2 y3 a1 a2 a3 b1 b2 b3 _)).mono ?_
   rintro e W2 ⟨rfl, hb⟩
   obtain ⟨Ba, Bb, Bo⟩ : Blk W2 (W0.heap.size) [.int .i64 x1, .int .i64 x2, .int .i64 x3, .int .i64 y1, .int .i64 y2, .int .i64 y3] ∧ Blk W2 (W0.heap.size + 1) [.int .i64 a1, .int .i64 a2, .int .i64 a3, .int .i64 b1, .int .i64 b2, .int .i64 b3] ∧ Blk W2 (W1.heap.size) [.int .i64 0, .int .i64 0, .int .i64 0] := by
     refine ⟨?_, ?_, ?_⟩ <;> refine Blk.keep hb ?_ <;> (repeat' (first | (with_reducible first | assumption | apply Blk.set | (refine Blk.new ?_; focus (first | rfl | (simp; done))) | refine Blk.alloc ?_ _ | refine Blk.other ?_ ?_ _) | exact eqL rfl | (refine neB ?_; omega)))
   have ca := Ba.cell
   have fa := Ba.free
   have la_W2 := Ba.lt
   have cb := Bb.cell
   have fb := Bb.free
   have lb_W2 := Bb.lt
   have co := Bo.cell
   have fo := Bo.free
   have lo_W2 := Bo.lt
   have kaW2 : Acc w W2 := by
     refine Acc.call ?_ hb
     (repeat' (first | (with_reducible first | assumption | exact Acc.refl _ | refine Acc.alloc ?_ _ | refine Acc.setCell ?_ ?_ _) | (refine leB ?_; omega)))
   clear hb
   go_wp2_with fail
   go_ret
   refine ⟨rfl, ?_⟩
   show Acc w _
   (repeat' (first | (with_reducible first | assumption | exact Acc.refl _ | refine Acc.alloc ?_ _ | refine Acc.setCell ?_ ?_ _) | (refine leB ?_; omega)))
  | some v =>
   obtain ⟨p, q, r⟩ := v
   obtain ⟨hs1, hs2⟩ := inner_swap ho
   obtain ⟨hp, hq, hr⟩ := okF_i64 (inner_ok ho)
   have HO := Lib.hid ho
   have HS1 := Lib.hid hs1
   have HS2 := Lib.hid hs2
   clear ho hs1 hs2
   refine (gave_some HO.out (implJInner_any x1 x2 x3 y1 y2 y3 a1 a2 a3 b1 b2 b3 hx1 hx2 hx3 hy1 hy2 hy3 ha1 ha2 ha3 hb1 hb2 hb3 _ (HL.out _ (by repeat' (first | (with_reducible first | assumption | exact Acc.refl _ | refine Acc.alloc ?_ _ | refine Acc.setCell ?_ ?_ _) | (refine leB ?_; omega)))))).mono ?_
   rintro e W1 ⟨rfl, hb⟩
   obtain ⟨Ba, Bb⟩ : Blk W1 (W0.heap.size) [.int .i64 x1, .int .i64 x2, .int .i64 x3, .int .i64 y1, .int .i64 y2, .int .i64 y3] ∧ Blk W1 (W0.heap.size + 1) [.int .i64 a1, .int .i64 a2, .int .i64 a3, .int .i64 b1, .int .i64 b2, .int .i64 b3] := by
     refine ⟨?_, ?_⟩ <;> refine Blk.keep hb ?_ <;> (repeat' (first | (with_reducible first | assumption | apply Blk.set | (refine Blk.new ?_; focus (first | rfl | (simp; done))) | refine Blk.alloc ?_ _ | refine Blk.other ?_ ?_ _) | exact eqL rfl | (refine neB ?_; omega)))
   have ca := Ba.cell
   have fa := Ba.free
   have la_W1 := Ba.lt
   have cb := Bb.cell
   have fb := Bb.free
   have lb_W1 := Bb.lt
   have kaW1 : Acc w W1 := by
     refine Acc.call ?_ hb
     (repeat' (first | (with_reducible first | assumption | exact Acc.refl _ | refine Acc.alloc ?_ _ | refine Acc.setCell ?_ ?_ _) | (refine leB ?_; omega)))
   clear hb
   go_wp2_with fail
   refine (gave_some HO.out (specInner_any x1 x2 x3 y1 y2 y3 a1 a2 a3 b1 b2 b3 _)).mono ?_
   rintro e W2 ⟨rfl, hb⟩
   obtain ⟨Ba, Bb, Bo⟩ : Blk W2 (W0.heap.size) [.int .i64 x1, .int .i64 x2, .int .i64 x3, .int .i64 y1, .int .i64 y2, .int .i64 y3] ∧ Blk W2 (W0.heap.size + 1) [.int .i64 a1, .int .i64 a2, .int .i64 a3, .int .i64 b1, .int .i64 b2, .int .i64 b3] ∧ Blk W2 (W1.heap.size) [.int .i64 p, .int .i64 q, .int .i64 r] := by
     refine ⟨?_, ?_, ?_⟩ <;> refine Blk.keep hb ?_ <;> (repeat' (first | (with_reducible first | assumption | apply Blk.set | (refine Blk.new ?_; focus (first | rfl | (simp; done))) | refine Blk.alloc ?_ _ | refine Blk.other ?_ ?_ _) | exact eqL rfl | (refine neB ?_; omega)))
   have ca := Ba.cell
   have fa := Ba.free
   have la_W2 := Ba.lt
   have cb := Bb.cell
   have fb := Bb.free
   have lb_W2 := Bb.lt
   have co := Bo.cell
   have fo := Bo.free
   have lo_W2 := Bo.lt
   have kaW2 : Acc w W2 := by
     refine Acc.call ?_ hb
     (repeat' (first | (with_reducible first | assumption | exact Acc.refl _ | refine Acc.alloc ?_ _ | refine Acc.setCell ?_ ?_ _) | (refine leB ?_; omega)))
   clear hb
   go_wp2_with fail
   refine (gave_some HS1.out (implJInner_any a1 a2 a3 b1 b2 b3 x1 x2 x3 y1 y2 y3 ha1 ha2 ha3 hb1 hb2 hb3 hx1 hx2 hx3 hy1 hy2 hy3 _ (HL.out _ (by repeat' (first | (with_reducible first | assumption | exact Acc.refl _ | refine Acc.alloc ?_ _ | refine Acc.setCell ?_ ?_ _) | (refine leB ?_; omega)))))).mono ?_
   rintro e W3 ⟨rfl, hb⟩
   obtain ⟨Ba, Bb, Bo, Bw⟩ : Blk W3 (W0.heap.size) [.int .i64 x1, .int .i64 x2, .int .i64 x3, .int .i64 y1, .int .i64 y2, .int .i64 y3] ∧ Blk W3 (W0.heap.size + 1) [.int .i64 a1, .int .i64 a2, .int .i64 a3, .int .i64 b1, .int .i64 b2, .int .i64 b3] ∧ Blk W3 (W1.heap.size) [.int .i64 p, .int .i64 q, .int .i64 r] ∧ Blk W3 (W2.heap.size) [.int .i64 p, .int .i64 q, .int .i64 r] := by
     refine ⟨?_, ?_, ?_, ?_⟩ <;> refine Blk.keep hb ?_ <;> (repeat' (first | (with_reducible first | assumption | apply Blk.set | (refine Blk.new ?_; focus (first | rfl | (simp; done))) | refine Blk.alloc ?_ _ | refine Blk.other ?_ ?_ _) | exact eqL rfl | (refine neB ?_; omega)))
   have ca := Ba.cell
   have fa := Ba.free
   have la_W3 := Ba.lt
   have cb := Bb.cell
   have fb := Bb.free
   have lb_W3 := Bb.lt
   have co := Bo.cell
   have fo := Bo.free
   have lo_W3 := Bo.lt
   have cw := Bw.cell
   have fw := Bw.free
   have lw_W3 := Bw.lt
   have kaW3 : Acc w W3 := by
     refine Acc.call ?_ hb
     (repeat' (first | (with_reducible first | assumption | exact Acc.refl _ | refine Acc.alloc ?_ _ | refine Acc.setCell ?_ ?_ _) | (refine leB ?_; omega)))
   clear hb
   go_wp2_with fail
   refine (gave_some HS2.out (implMirror_any p q r hp hq hr _ (HL.out _ (by repeat' (first | (with_reducible first | assumption | exact Acc.refl _ | refine Acc.alloc ?_ _ | refine Acc.setCell ?_ ?_ _) | (refine leB ?_; omega)))))).mono ?_
   rintro e W4 ⟨rfl, hb⟩
   obtain ⟨Ba, Bb, Bo, Bw, Bx⟩ : Blk W4 (W0.heap.size) [.int .i64 x1, .int .i64 x2, .int .i64 x3, .int .i64 y1, .int .i64 y2, .int .i64 y3] ∧ Blk W4 (W0.heap.size + 1) [.int .i64 a1, .int .i64 a2, .int .i64 a3, .int .i64 b1, .int .i64 b2, .int .i64 b3] ∧ Blk W4 (W1.heap.size) [.int .i64 p, .int .i64 q, .int .i64 r] ∧ Blk W4 (W2.heap.size) [.int .i64 p, .int .i64 q, .int .i64 r] ∧ Blk W4 (W3.heap.size) [.int .i64 p, .int .i64 (-q), .int .i64 r] := by
     refine ⟨?_, ?_, ?_, ?_, ?_⟩ <;> refine Blk.keep hb ?_ <;> (repeat' (first | (with_reducible first | assumption | apply Blk.set | (refine Blk.new ?_; focus (first | rfl | (simp; done))) | refine Blk.alloc ?_ _ | refine Blk.other ?_ ?_ _) | exact eqL rfl | (refine neB ?_; omega)))
   have ca := Ba.cell
   have fa := Ba.free
   have la_W4 := Ba.lt
   have cb := Bb.cell
   have fb := Bb.free
   have lb_W4 := Bb.lt
   have co := Bo.cell
   have fo := Bo.free
   have lo_W4 := Bo.lt
   have cw := Bw.cell
   have fw := Bw.free
   have lw_W4 := Bw.lt
   have cx := Bx.cell
   have fx := Bx.free
   have lx_W4 := Bx.lt
   have kaW4 : Acc w W4 := by
     refine Acc.call ?_ hb
     (repeat' (first | (with_reducible first | assumption | exact Acc.refl _ | refine Acc.alloc ?_ _ | refine Acc.setCell ?_ ?_ _) | (refine leB ?_; omega)))
   clear hb
   go_wp2_with fail
   cases ht : jpowF x1 x2 x3 y1 y2 y3 with
   | none =>
    have HU := Lib.hid ht
    clear ht
    refine (gave_none HU.out (implJPower_any x1 x2 x3 y1 y2 y3 hx1 hx2 hx3 hy1 hy2 hy3 _ (HL.out _ (by repeat' (first | (with_reducible first | assumption | exact Acc.refl _ | refine Acc.alloc ?_ _ | refine Acc.setCell ?_ ?_ _) | (refine leB ?_; omega)))))).mono ?_
    rintro e W5 ⟨rfl, hb⟩
    obtain ⟨Ba, Bb, Bo, Bw, Bx, Bm⟩ : Blk W5 (W0.heap.size) [.int .i64 x1, .int .i64 x2, .int .i64 x3, .int .i64 y1, .int .i64 y2, .int .i64 y3] ∧ Blk W5 (W0.heap.size + 1) [.int .i64 a1, .int .i64 a2, .int .i64 a3, .int .i64 b1, .int .i64 b2, .int .i64 b3] ∧ Blk W5 (W1.heap.size) [.int .i64 p, .int .i64 q, .int .i64 r] ∧ Blk W5 (W2.heap.size) [.int .i64 p, .int .i64 q, .int .i64 r] ∧ Blk W5 (W3.heap.size) [.int .i64 p, .int .i64 (-q), .int .i64 r] ∧ Blk W5 (W4.heap.size) [.int .i64 p, .int .i64 (-q), .int .i64 r] := by
      refine ⟨?_, ?_, ?_, ?_, ?_, ?_⟩ <;> refine Blk.keep hb ?_ <;> (repeat' (first | (with_reducible first | assumption | apply Blk.set | (refine Blk.new ?_; focus (first | rfl | (simp; done))) | refine Blk.alloc ?_ _ | refine Blk.other ?_ ?_ _) | exact eqL rfl | (refine neB ?_; omega)))
    have ca := Ba.cell
    have fa := Ba.free
    have la_W5 := Ba.lt
    have cb := Bb.cell
    have fb := Bb.free
    have lb_W5 := Bb.lt
    have co := Bo.cell
    have fo := Bo.free
    have lo_W5 := Bo.lt
    have cw := Bw.cell
    have fw := Bw.free
    have lw_W5 := Bw.lt
    have cx := Bx.cell
    have fx := Bx.free
    have lx_W5 := Bx.lt
    have cm := Bm.cell
    have fm := Bm.free
    have lm_W5 := Bm.lt
    have kaW5 : Acc w W5 := by
      refine Acc.call ?_ hb
      (repeat' (first | (with_reducible first | assumption | exact Acc.refl _ | refine Acc.alloc ?_ _ | refine Acc.setCell ?_ ?_ _) | (refine leB ?_; omega)))
    clear hb
    go_wp2_with fail
    obtain ⟨⟨v1, v2, v3⟩, hv⟩ : ∃ o, partsR (jpowF a1 a2 a3 b1 b2 b3) = o := ⟨_, rfl⟩
    obtain ⟨kv, hk⟩ : ∃ k, okR (jpowF a1 a2 a3 b1 b2 b3) = k := ⟨_, rfl⟩
    obtain ⟨hv1, hv2, hv3⟩ := parts_i64 (fun _ _ _ h => jpow_ok h) hv
    have HV := Lib.hid hv
    have HK := Lib.hid hk
    clear hv hk
    refine (gave_any HV.out HK.out (implJPower_any a1 a2 a3 b1 b2 b3 ha1 ha2 ha3 hb1 hb2 hb3 _ (HL.out _ (by repeat' (first | (with_reducible first | assumption | exact Acc.refl _ | refine Acc.alloc ?_ _ | refine Acc.setCell ?_ ?_ _) | (refine leB ?_; omega)))))).mono ?_
    rintro e W6 ⟨rfl, hb⟩
    obtain ⟨Ba, Bb, Bo, Bw, Bx, Bm, Bu⟩ : Blk W6 (W0.heap.size) [.int .i64 x1, .int .i64 x2, .int .i64 x3, .int .i64 y1, .int .i64 y2, .int .i64 y3] ∧ Blk W6 (W0.heap.size + 1) [.int .i64 a1, .int .i64 a2, .int .i64 a3, .int .i64 b1, .int .i64 b2, .int .i64 b3] ∧ Blk W6 (W1.heap.size) [.int .i64 p, .int .i64 q, .int .i64 r] ∧ Blk W6 (W2.heap.size) [.int .i64 p, .int .i64 q, .int .i64 r] ∧ Blk W6 (W3.heap.size) [.int .i64 p, .int .i64 (-q), .int .i64 r] ∧ Blk W6 (W4.heap.size) [.int .i64 p, .int .i64 (-q), .int .i64 r] ∧ Blk W6 (W5.heap.size) [.int .i64 0, .int .i64 0, .int .i64 0] := by
      refine ⟨?_, ?_, ?_, ?_, ?_, ?_, ?_⟩ <;> refine Blk.keep hb ?_ <;> (repeat' (first | (with_reducible first | assumption | apply Blk.set | (refine Blk.new ?_; focus (first | rfl | (simp; done))) | refine Blk.alloc ?_ _ | refine Blk.other ?_ ?_ _) | exact eqL rfl | (refine neB ?_; omega)))
    have ca := Ba.cell
    have fa := Ba.free
    have la_W6 := Ba.lt
    have cb := Bb.cell
    have fb := Bb.free
    have lb_W6 := Bb.lt
    have co := Bo.cell
    have fo := Bo.free
    have lo_W6 := Bo.lt
    have cw := Bw.cell
    have fw := Bw.free
    have lw_W6 := Bw.lt
    have cx := Bx.cell
    have fx := Bx.free
    have lx_W6 := Bx.lt
    have cm := Bm.cell
    have fm := Bm.free
    have lm_W6 := Bm.lt
    have cu := Bu.cell
    have fu := Bu.free
    have lu_W6 := Bu.lt
    have kaW6 : Acc w W6 := by
      refine Acc.call ?_ hb
      (repeat' (first | (with_reducible first | assumption | exact Acc.refl _ | refine Acc.alloc ?_ _ | refine Acc.setCell ?_ ?_ _) | (refine leB ?_; omega)))
    clear hb
    go_wp2_with fail
    obtain ⟨⟨t1, t2, t3⟩, hv⟩ : ∃ o, partsR (timesF 0 0 0 v1 v2 v3) = o := ⟨_, rfl⟩
    obtain ⟨kt, hk⟩ : ∃ k, okR (timesF 0 0 0 v1 v2 v3) = k := ⟨_, rfl⟩
    obtain ⟨ht1, ht2, ht3⟩ := parts_i64 (fun _ _ _ h => times_ok h) hv
    have HV := Lib.hid hv
    have HK := Lib.hid hk
    clear hv hk
    refine (gave_any HV.out HK.out (implTimes_any 0 0 0 v1 v2 v3 i64_0 i64_0 i64_0 hv1 hv2 hv3 _ (HL.out _ (by repeat' (first | (with_reducible first | assumption | exact Acc.refl _ | refine Acc.alloc ?_ _ | refine Acc.setCell ?_ ?_ _) | (refine leB ?_; omega)))))).mono ?_
    rintro e W7 ⟨rfl, hb⟩
    obtain ⟨Ba, Bb, Bo, Bw, Bx, Bm, Bu, Bv⟩ : Blk W7 (W0.heap.size) [.int .i64 x1, .int .i64 x2, .int .i64 x3, .int .i64 y1, .int .i64 y2, .int .i64 y3] ∧ Blk W7 (W0.heap.size + 1) [.int .i64 a1, .int .i64 a2, .int .i64 a3, .int .i64 b1, .int .i64 b2, .int .i64 b3] ∧ Blk W7 (W1.heap.size) [.int .i64 p, .int .i64 q, .int .i64 r] ∧ Blk W7 (W2.heap.size) [.int .i64 p, .int .i64 q, .int .i64 r] ∧ Blk W7 (W3.heap.size) [.int .i64 p, .int .i64 (-q), .int .i64 r] ∧ Blk W7 (W4.heap.size) [.int .i64 p, .int .i64 (-q), .int .i64 r] ∧ Blk W7 (W5.heap.size) [.int .i64 0, .int .i64 0, .int .i64 0] ∧ Blk W7 (W6.heap.size) [.int .i64 v1, .int .i64 v2, .int .i64 v3] := by
      refine ⟨?_, ?_, ?_, ?_, ?_, ?_, ?_, ?_⟩ <;> refine Blk.keep hb ?_ <;> (repeat' (first | (with_reducible first | assumption | apply Blk.set | (refine Blk.new ?_; focus (first | rfl | (simp; done))) | refine Blk.alloc ?_ _ | refine Blk.other ?_ ?_ _) | exact eqL rfl | (refine neB ?_; omega)))
    have ca := Ba.cell
    have fa := Ba.free
    have la_W7 := Ba.lt
    have cb := Bb.cell
    have fb := Bb.free
    have lb_W7 := Bb.lt
    have co := Bo.cell
    have fo := Bo.free
    have lo_W7 := Bo.lt
    have cw := Bw.cell
    have fw := Bw.free
    have lw_W7 := Bw.lt
    have cx := Bx.cell
    have fx := Bx.free
    have lx_W7 := Bx.lt
    have cm := Bm.cell
    have fm := Bm.free
    have lm_W7 := Bm.lt
    have cu := Bu.cell
    have fu := Bu.free
    have lu_W7 := Bu.lt
    have cv := Bv.cell
    have fv := Bv.free
    have lv_W7 := Bv.lt
    have kaW7 : Acc w W7 := by
      refine Acc.call ?_ hb
      (repeat' (first | (with_reducible first | assumption | exact Acc.refl _ | refine Acc.alloc ?_ _ | refine Acc.setCell ?_ ?_ _) | (refine leB ?_; omega)))
    clear hb
    go_wp2_with fail
    obtain ⟨⟨n1, n2, n3⟩, hv⟩ : ∃ o, partsR (powerF p q r) = o := ⟨_, rfl⟩
    obtain ⟨kn, hk⟩ : ∃ k, okR (powerF p q r) = k := ⟨_, rfl⟩
    obtain ⟨hn1, hn2, hn3⟩ := parts_i64 (fun _ _ _ h => power_ok h) hv
    have HV := Lib.hid hv
    have HK := Lib.hid hk
    clear hv hk
    refine (gave_any HV.out HK.out (implPower_any p q r hp hq hr _ (HL.out _ (by repeat' (first | (with_reducible first | assumption | exact Acc.refl _ | refine Acc.alloc ?_ _ | refine Acc.setCell ?_ ?_ _) | (refine leB ?_; omega)))))).mono ?_
    rintro e W8 ⟨rfl, hb⟩
    obtain ⟨Ba, Bb, Bo, Bw, Bx, Bm, Bu, Bv, Bt⟩ : Blk W8 (W0.heap.size) [.int .i64 x1, .int .i64 x2, .int .i64 x3, .int .i64 y1, .int .i64 y2, .int .i64 y3] ∧ Blk W8 (W0.heap.size + 1) [.int .i64 a1, .int .i64 a2, .int .i64 a3, .int .i64 b1, .int .i64 b2, .int .i64 b3] ∧ Blk W8 (W1.heap.size) [.int .i64 p, .int .i64 q, .int .i64 r] ∧ Blk W8 (W2.heap.size) [.int .i64 p, .int .i64 q, .int .i64 r] ∧ Blk W8 (W3.heap.size) [.int .i64 p, .int .i64 (-q), .int .i64 r] ∧ Blk W8 (W4.heap.size) [.int .i64 p, .int .i64 (-q), .int .i64 r] ∧ Blk W8 (W5.heap.size) [.int .i64 0, .int .i64 0, .int .i64 0] ∧ Blk W8 (W6.heap.size) [.int .i64 v1, .int .i64 v2, .int .i64 v3] ∧ Blk W8 (W7.heap.size) [.int .i64 t1, .int .i64 t2, .int .i64 t3] := by
      refine ⟨?_, ?_, ?_, ?_, ?_, ?_, ?_, ?_, ?_⟩ <;> refine Blk.keep hb ?_ <;> (repeat' (first | (with_reducible first | assumption | apply Blk.set | (refine Blk.new ?_; focus (first | rfl | (simp; done))) | refine Blk.alloc ?_ _ | refine Blk.other ?_ ?_ _) | exact eqL rfl | (refine neB ?_; omega)))
    have ca := Ba.cell
    have fa := Ba.free
    have la_W8 := Ba.lt
    have cb := Bb.cell
    have fb := Bb.free
    have lb_W8 := Bb.lt
    have co := Bo.cell
    have fo := Bo.free
    have lo_W8 := Bo.lt
    have cw := Bw.cell
    have fw := Bw.free
    have lw_W8 := Bw.lt
    have cx := Bx.cell
    have fx := Bx.free
    have lx_W8 := Bx.lt
    have cm := Bm.cell
    have fm := Bm.free
    have lm_W8 := Bm.lt
    have cu := Bu.cell
    have fu := Bu.free
    have lu_W8 := Bu.lt
    have cv := Bv.cell
    have fv := Bv.free
    have lv_W8 := Bv.lt
    have ct := Bt.cell
    have ft := Bt.free
    have lt_W8 := Bt.lt
    have kaW8 : Acc w W8 := by
      refine Acc.call ?_ hb
      (repeat' (first | (with_reducible first | assumption | exact Acc.refl _ | refine Acc.alloc ?_ _ | refine Acc.setCell ?_ ?_ _) | (refine leB ?_; omega)))
    clear hb
    go_wp2_with fail
    obtain ⟨c, kc, hc⟩ := cmp_open (compareF n1 n2 n3 t1 t2 t3)
    have HC := Lib.hid hc
    clear hc
    refine (cmpv_any HC.out (implCompare_any n1 n2 n3 t1 t2 t3 hn1 hn2 hn3 ht1 ht2 ht3 _ (HL.out _ (by repeat' (first | (with_reducible first | assumption | exact Acc.refl _ | refine Acc.alloc ?_ _ | refine Acc.setCell ?_ ?_ _) | (refine leB ?_; omega)))))).mono ?_
    rintro e W9 ⟨rfl, hb⟩
    obtain ⟨Ba, Bb, Bo, Bw, Bx, Bm, Bu, Bv, Bt, Bn⟩ : Blk W9 (W0.heap.size) [.int .i64 x1, .int .i64 x2, .int .i64 x3, .int .i64 y1, .int .i64 y2, .int .i64 y3] ∧ Blk W9 (W0.heap.size + 1) [.int .i64 a1, .int .i64 a2, .int .i64 a3, .int .i64 b1, .int .i64 b2, .int .i64 b3] ∧ Blk W9 (W1.heap.size) [.int .i64 p, .int .i64 q, .int .i64 r] ∧ Blk W9 (W2.heap.size) [.int .i64 p, .int .i64 q, .int .i64 r] ∧ Blk W9 (W3.heap.size) [.int .i64 p, .int .i64 (-q), .int .i64 r] ∧ Blk W9 (W4.heap.size) [.int .i64 p, .int .i64 (-q), .int .i64 r] ∧ Blk W9 (W5.heap.size) [.int .i64 0, .int .i64 0, .int .i64 0] ∧ Blk W9 (W6.heap.size) [.int .i64 v1, .int .i64 v2, .int .i64 v3] ∧ Blk W9 (W7.heap.size) [.int .i64 t1, .int .i64 t2, .int .i64 t3] ∧ Blk W9 (W8.heap.size) [.int .i64 n1, .int .i64 n2, .int .i64 n3] := by
      refine ⟨?_, ?_, ?_, ?_, ?_, ?_, ?_, ?_, ?_, ?_⟩ <;> refine Blk.keep hb ?_ <;> (repeat' (first | (with_reducible first | assumption | apply Blk.set | (refine Blk.new ?_; focus (first | rfl | (simp; done))) | refine Blk.alloc ?_ _ | refine Blk.other ?_ ?_ _) | exact eqL rfl | (refine neB ?_; omega)))
    have ca := Ba.cell
    have fa := Ba.free
    have la_W9 := Ba.lt
    have cb := Bb.cell
    have fb := Bb.free
    have lb_W9 := Bb.lt
    have co := Bo.cell
    have fo := Bo.free
    have lo_W9 := Bo.lt
    have cw := Bw.cell
    have fw := Bw.free
    have lw_W9 := Bw.lt
    have cx := Bx.cell
    have fx := Bx.free
    have lx_W9 := Bx.lt
    have cm := Bm.cell
    have fm := Bm.free
    have lm_W9 := Bm.lt
    have cu := Bu.cell
    have fu := Bu.free
    have lu_W9 := Bu.lt
    have cv := Bv.cell
    have fv := Bv.free
    have lv_W9 := Bv.lt
    have ct := Bt.cell
    have ft := Bt.free
    have lt_W9 := Bt.lt
    have cn := Bn.cell
    have fn := Bn.free
    have ln_W9 := Bn.lt
    have kaW9 : Acc w W9 := by
      refine Acc.call ?_ hb
      (repeat' (first | (with_reducible first | assumption | exact Acc.refl _ | refine Acc.alloc ?_ _ | refine Acc.setCell ?_ ?_ _) | (refine leB ?_; omega)))
    clear hb
    go_wp2_with fail
    all_goals
      go_ret
      refine ⟨by first | rfl | (simp [*]; done) | (simp [go_sem, *]; done), ?_⟩
      show Acc w _
      (repeat' (first | (with_reducible first | assumption | exact Acc.refl _ | refine Acc.alloc ?_ _ | refine Acc.setCell ?_ ?_ _) | (refine leB ?_; omega)))
   | some v =>
    obtain ⟨u1, u2, u3⟩ := v
    obtain ⟨hu1, hu2, hu3⟩ := okF_i64 (jpow_ok ht)
    have HU := Lib.hid ht
    clear ht
    refine (gave_some HU.out (implJPower_any x1 x2 x3 y1 y2 y3 hx1 hx2 hx3 hy1 hy2 hy3 _ (HL.out _ (by repeat' (first | (with_reducible first | assumption | exact Acc.refl _ | refine Acc.alloc ?_ _ | refine Acc.setCell ?_ ?_ _) | (refine leB ?_; omega)))))).mono ?_
    rintro e W5 ⟨rfl, hb⟩
    obtain ⟨Ba, Bb, Bo, Bw, Bx, Bm⟩ : Blk W5 (W0.heap.size) [.int .i64 x1, .int .i64 x2, .int .i64 x3, .int .i64 y1, .int .i64 y2, .int .i64 y3] ∧ Blk W5 (W0.heap.size + 1) [.int .i64 a1, .int .i64 a2, .int .i64 a3, .int .i64 b1, .int .i64 b2, .int .i64 b3] ∧ Blk W5 (W1.heap.size) [.int .i64 p, .int .i64 q, .int .i64 r] ∧ Blk W5 (W2.heap.size) [.int .i64 p, .int .i64 q, .int .i64 r] ∧ Blk W5 (W3.heap.size) [.int .i64 p, .int .i64 (-q), .int .i64 r] ∧ Blk W5 (W4.heap.size) [.int .i64 p, .int .i64 (-q), .int .i64 r] := by
      refine ⟨?_, ?_, ?_, ?_, ?_, ?_⟩ <;> refine Blk.keep hb ?_ <;> (repeat' (first | (with_reducible first | assumption | apply Blk.set | (refine Blk.new ?_; focus (first | rfl | (simp; done))) | refine Blk.alloc ?_ _ | refine Blk.other ?_ ?_ _) | exact eqL rfl | (refine neB ?_; omega)))
    have ca := Ba.cell
    have fa := Ba.free
    have la_W5 := Ba.lt
    have cb := Bb.cell
    have fb := Bb.free
    have lb_W5 := Bb.lt
    have co := Bo.cell
    have fo := Bo.free
    have lo_W5 := Bo.lt
    have cw := Bw.cell
    have fw := Bw.free
    have lw_W5 := Bw.lt
    have cx := Bx.cell
    have fx := Bx.free
    have lx_W5 := Bx.lt
    have cm := Bm.cell
    have fm := Bm.free
    have lm_W5 := Bm.lt
    have kaW5 : Acc w W5 := by
      refine Acc.call ?_ hb
      (repeat' (first | (with_reducible first | assumption | exact Acc.refl _ | refine Acc.alloc ?_ _ | refine Acc.setCell ?_ ?_ _) | (refine leB ?_; omega)))
    clear hb
    go_wp2_with fail
    cases ht : jpowF a1 a2 a3 b1 b2 b3 with
    | none =>
     have HV := Lib.hid ht
     clear ht
     refine (gave_none HV.out (implJPower_any a1 a2 a3 b1 b2 b3 ha1 ha2 ha3 hb1 hb2 hb3 _ (HL.out _ (by repeat' (first | (with_reducible first | assumption | exact Acc.refl _ | refine Acc.alloc ?_ _ | refine Acc.setCell ?_ ?_ _) | (refine leB ?_; omega)))))).mono ?_
     rintro e W6 ⟨rfl, hb⟩
     obtain ⟨Ba, Bb, Bo, Bw, Bx, Bm, Bu⟩ : Blk W6 (W0.heap.size) [.int .i64 x1, .int .i64 x2, .int .i64 x3, .int .i64 y1, .int .i64 y2, .int .i64 y3] ∧ Blk W6 (W0.heap.size + 1) [.int .i64 a1, .int .i64 a2, .int .i64 a3, .int .i64 b1, .int .i64 b2, .int .i64 b3] ∧ Blk W6 (W1.heap.size) [.int .i64 p, .int .i64 q, .int .i64 r] ∧ Blk W6 (W2.heap.size) [.int .i64 p, .int .i64 q, .int .i64 r] ∧ Blk W6 (W3.heap.size) [.int .i64 p, .int .i64 (-q), .int .i64 r] ∧ Blk W6 (W4.heap.size) [.int .i64 p, .int .i64 (-q), .int .i64 r] ∧ Blk W6 (W5.heap.size) [.int .i64 u1, .int .i64 u2, .int .i64 u3] := by
       refine ⟨?_, ?_, ?_, ?_, ?_, ?_, ?_⟩ <;> refine Blk.keep hb ?_ <;> (repeat' (first | (with_reducible first | assumption | apply Blk.set | (refine Blk.new ?_; focus (first | rfl | (simp; done))) | refine Blk.alloc ?_ _ | refine Blk.other ?_ ?_ _) | exact eqL rfl | (refine neB ?_; omega)))
     have ca := Ba.cell
     have fa := Ba.free
     have la_W6 := Ba.lt
     have cb := Bb.cell
     have fb := Bb.free
     have lb_W6 := Bb.lt
     have co := Bo.cell
     have fo := Bo.free
     have lo_W6 := Bo.lt
     have cw := Bw.cell
     have fw := Bw.free
     have lw_W6 := Bw.lt
     have cx := Bx.cell
     have fx := Bx.free
     have lx_W6 := Bx.lt
     have cm := Bm.cell
     have fm := Bm.free
     have lm_W6 := Bm.lt
     have cu := Bu.cell
     have fu := Bu.free
     have lu_W6 := Bu.lt
     have kaW6 : Acc w W6 := by
       refine Acc.call ?_ hb
       (repeat' (first | (with_reducible first | assumption | exact Acc.refl _ | refine Acc.alloc ?_ _ | refine Acc.setCell ?_ ?_ _) | (refine leB ?_; omega)))
     clear hb
     go_wp2_with fail
     obtain ⟨⟨t1, t2, t3⟩, hv⟩ : ∃ o, partsR (timesF u1 u2 u3 0 0 0) = o := ⟨_, rfl⟩
     obtain ⟨kt, hk⟩ : ∃ k, okR (timesF u1 u2 u3 0 0 0) = k := ⟨_, rfl⟩
     obtain ⟨ht1, ht2, ht3⟩ := parts_i64 (fun _ _ _ h => times_ok h) hv
     have HV := Lib.hid hv
     have HK := Lib.hid hk
     clear hv hk
     refine (gave_any HV.out HK.out (implTimes_any u1 u2 u3 0 0 0 hu1 hu2 hu3 i64_0 i64_0 i64_0 _ (HL.out _ (by repeat' (first | (with_reducible first | assumption | exact Acc.refl _ | refine Acc.alloc ?_ _ | refine Acc.setCell ?_ ?_ _) | (refine leB ?_; omega)))))).mono ?_
     rintro e W7 ⟨rfl, hb⟩
     obtain ⟨Ba, Bb, Bo, Bw, Bx, Bm, Bu, Bv⟩ : Blk W7 (W0.heap.size) [.int .i64 x1, .int .i64 x2, .int .i64 x3, .int .i64 y1, .int .i64 y2, .int .i64 y3] ∧ Blk W7 (W0.heap.size + 1) [.int .i64 a1, .int .i64 a2, .int .i64 a3, .int .i64 b1, .int .i64 b2, .int .i64 b3] ∧ Blk W7 (W1.heap.size) [.int .i64 p, .int .i64 q, .int .i64 r] ∧ Blk W7 (W2.heap.size) [.int .i64 p, .int .i64 q, .int .i64 r] ∧ Blk W7 (W3.heap.size) [.int .i64 p, .int .i64 (-q), .int .i64 r] ∧ Blk W7 (W4.heap.size) [.int .i64 p, .int .i64 (-q), .int .i64 r] ∧ Blk W7 (W5.heap.size) [.int .i64 u1, .int .i64 u2, .int .i64 u3] ∧ Blk W7 (W6.heap.size) [.int .i64 0, .int .i64 0, .int .i64 0] := by
       refine ⟨?_, ?_, ?_, ?_, ?_, ?_, ?_, ?_⟩ <;> refine Blk.keep hb ?_ <;> (repeat' (first | (with_reducible first | assumption | apply Blk.set | (refine Blk.new ?_; focus (first | rfl | (simp; done))) | refine Blk.alloc ?_ _ | refine Blk.other ?_ ?_ _) | exact eqL rfl | (refine neB ?_; omega)))
     have ca := Ba.cell
     have fa := Ba.free
     have la_W7 := Ba.lt
     have cb := Bb.cell
     have fb := Bb.free
     have lb_W7 := Bb.lt
     have co := Bo.cell
     have fo := Bo.free
     have lo_W7 := Bo.lt
     have cw := Bw.cell
     have fw := Bw.free
     have lw_W7 := Bw.lt
     have cx := Bx.cell
     have fx := Bx.free
     have lx_W7 := Bx.lt
     have cm := Bm.cell
     have fm := Bm.free
     have lm_W7 := Bm.lt
     have cu := Bu.cell
     have fu := Bu.free
     have lu_W7 := Bu.lt
     have cv := Bv.cell
     have fv := Bv.free
     have lv_W7 := Bv.lt
     have kaW7 : Acc w W7 := by
       refine Acc.call ?_ hb
       (repeat' (first | (with_reducible first | assumption | exact Acc.refl _ | refine Acc.alloc ?_ _ | refine Acc.setCell ?_ ?_ _) | (refine leB ?_; omega)))
     clear hb
     go_wp2_with fail
     obtain ⟨⟨n1, n2, n3⟩, hv⟩ : ∃ o, partsR (powerF p q r) = o := ⟨_, rfl⟩
     obtain ⟨kn, hk⟩ : ∃ k, okR (powerF p q r) = k := ⟨_, rfl⟩
     obtain ⟨hn1, hn2, hn3⟩ := parts_i64 (fun _ _ _ h => power_ok h) hv
     have HV := Lib.hid hv
     have HK := Lib.hid hk
     clear hv hk
     refine (gave_any HV.out HK.out (implPower_any p q r hp hq hr _ (HL.out _ (by repeat' (first | (with_reducible first | assumption | exact Acc.refl _ | refine Acc.alloc ?_ _ | refine Acc.setCell ?_ ?_ _) | (refine leB ?_; omega)))))).mono ?_
     rintro e W8 ⟨rfl, hb⟩
     obtain ⟨Ba, Bb, Bo, Bw, Bx, Bm, Bu, Bv, Bt⟩ : Blk W8 (W0.heap.size) [.int .i64 x1, .int .i64 x2, .int .i64 x3, .int .i64 y1, .int .i64 y2, .int .i64 y3] ∧ Blk W8 (W0.heap.size + 1) [.int .i64 a1, .int .i64 a2, .int .i64 a3, .int .i64 b1, .int .i64 b2, .int .i64 b3] ∧ Blk W8 (W1.heap.size) [.int .i64 p, .int .i64 q, .int .i64 r] ∧ Blk W8 (W2.heap.size) [.int .i64 p, .int .i64 q, .int .i64 r] ∧ Blk W8 (W3.heap.size) [.int .i64 p, .int .i64 (-q), .int .i64 r] ∧ Blk W8 (W4.heap.size) [.int .i64 p, .int .i64 (-q), .int .i64 r] ∧ Blk W8 (W5.heap.size) [.int .i64 u1, .int .i64 u2, .int .i64 u3] ∧ Blk W8 (W6.heap.size) [.int .i64 0, .int .i64 0, .int .i64 0] ∧ Blk W8 (W7.heap.size) [.int .i64 t1, .int .i64 t2, .int .i64 t3] := by
       refine ⟨?_, ?_, ?_, ?_, ?_, ?_, ?_, ?_, ?_⟩ <;> refine Blk.keep hb ?_ <;> (repeat' (first | (with_reducible first | assumption | apply Blk.set | (refine Blk.new ?_; focus (first | rfl | (simp; done))) | refine Blk.alloc ?_ _ | refine Blk.other ?_ ?_ _) | exact eqL rfl | (refine neB ?_; omega)))
     have ca := Ba.cell
     have fa := Ba.free
     have la_W8 := Ba.lt
     have cb := Bb.cell
     have fb := Bb.free
     have lb_W8 := Bb.lt
     have co := Bo.cell
     have fo := Bo.free
     have lo_W8 := Bo.lt
     have cw := Bw.cell
     have fw := Bw.free
     have lw_W8 := Bw.lt
     have cx := Bx.cell
     have fx := Bx.free
     have lx_W8 := Bx.lt
     have cm := Bm.cell
     have fm := Bm.free
     have lm_W8 := Bm.lt
     have cu := Bu.cell
     have fu := Bu.free
     have lu_W8 := Bu.lt
     have cv := Bv.cell
     have fv := Bv.free
     have lv_W8 := Bv.lt
     have ct := Bt.cell
     have ft := Bt.free
     have lt_W8 := Bt.lt
     have kaW8 : Acc w W8 := by
       refine Acc.call ?_ hb
       (repeat' (first | (with_reducible first | assumption | exact Acc.refl _ | refine Acc.alloc ?_ _ | refine Acc.setCell ?_ ?_ _) | (refine leB ?_; omega)))
     clear hb
     go_wp2_with fail
     obtain ⟨c, kc, hc⟩ := cmp_open (compareF n1 n2 n3 t1 t2 t3)
     have HC := Lib.hid hc
     clear hc
     refine (cmpv_any HC.out (implCompare_any n1 n2 n3 t1 t2 t3 hn1 hn2 hn3 ht1 ht2 ht3 _ (HL.out _ (by repeat' (first | (with_reducible first | assumption | exact Acc.refl _ | refine Acc.alloc ?_ _ | refine Acc.setCell ?_ ?_ _) | (refine leB ?_; omega)))))).mono ?_
     rintro e W9 ⟨rfl, hb⟩
     obtain ⟨Ba, Bb, Bo, Bw, Bx, Bm, Bu, Bv, Bt, Bn⟩ : Blk W9 (W0.heap.size) [.int .i64 x1, .int .i64 x2, .int .i64 x3, .int .i64 y1, .int .i64 y2, .int .i64 y3] ∧ Blk W9 (W0.heap.size + 1) [.int .i64 a1, .int .i64 a2, .int .i64 a3, .int .i64 b1, .int .i64 b2, .int .i64 b3] ∧ Blk W9 (W1.heap.size) [.int .i64 p, .int .i64 q, .int .i64 r] ∧ Blk W9 (W2.heap.size) [.int .i64 p, .int .i64 q, .int .i64 r] ∧ Blk W9 (W3.heap.size) [.int .i64 p, .int .i64 (-q), .int .i64 r] ∧ Blk W9 (W4.heap.size) [.int .i64 p, .int .i64 (-q), .int .i64 r] ∧ Blk W9 (W5.heap.size) [.int .i64 u1, .int .i64 u2, .int .i64 u3] ∧ Blk W9 (W6.heap.size) [.int .i64 0, .int .i64 0, .int .i64 0] ∧ Blk W9 (W7.heap.size) [.int .i64 t1, .int .i64 t2, .int .i64 t3] ∧ Blk W9 (W8.heap.size) [.int .i64 n1, .int .i64 n2, .int .i64 n3] := by
       refine ⟨?_, ?_, ?_, ?_, ?_, ?_, ?_, ?_, ?_, ?_⟩ <;> refine Blk.keep hb ?_ <;> (repeat' (first | (with_reducible first | assumption | apply Blk.set | (refine Blk.new ?_; focus (first | rfl | (simp; done))) | refine Blk.alloc ?_ _ | refine Blk.other ?_ ?_ _) | exact eqL rfl | (refine neB ?_; omega)))
     have ca := Ba.cell
     have fa := Ba.free
     have la_W9 := Ba.lt
     have cb := Bb.cell
     have fb := Bb.free
     have lb_W9 := Bb.lt
     have co := Bo.cell
     have fo := Bo.free
     have lo_W9 := Bo.lt
     have cw := Bw.cell
     have fw := Bw.free
     have lw_W9 := Bw.lt
     have cx := Bx.cell
     have fx := Bx.free
     have lx_W9 := Bx.lt
     have cm := Bm.cell
     have fm := Bm.free
     have lm_W9 := Bm.lt
     have cu := Bu.cell
     have fu := Bu.free
     have lu_W9 := Bu.lt
     have cv := Bv.cell
     have fv := Bv.free
     have lv_W9 := Bv.lt
     have ct := Bt.cell
     have ft := Bt.free
     have lt_W9 := Bt.lt
     have cn := Bn.cell
     have fn := Bn.free
     have ln_W9 := Bn.lt
     have kaW9 : Acc w W9 := by
       refine Acc.call ?_ hb
       (repeat' (first | (with_reducible first | assumption | exact Acc.refl _ | refine Acc.alloc ?_ _ | refine Acc.setCell ?_ ?_ _) | (refine leB ?_; omega)))
     clear hb
     go_wp2_with fail
     all_goals
       go_ret
       refine ⟨by first | rfl | (simp [*]; done) | (simp [go_sem, *]; done), ?_⟩
       show Acc w _
       (repeat' (first | (with_reducible first | assumption | exact Acc.refl _ | refine Acc.alloc ?_ _ | refine Acc.setCell ?_ ?_ _) | (refine leB ?_; omega)))
    | some v =>
     obtain ⟨v1, v2, v3⟩ := v
     obtain ⟨hv1, hv2, hv3⟩ := okF_i64 (jpow_ok ht)
     have HV := Lib.hid ht
     clear ht
     refine (gave_some HV.out (implJPower_any a1 a2 a3 b1 b2 b3 ha1 ha2 ha3 hb1 hb2 hb3 _ (HL.out _ (by repeat' (first | (with_reducible first | assumption | exact Acc.refl _ | refine Acc.alloc ?_ _ | refine Acc.setCell ?_ ?_ _) | (refine leB ?_; omega)))))).mono ?_
     rintro e W6 ⟨rfl, hb⟩
     obtain ⟨Ba, Bb, Bo, Bw, Bx, Bm, Bu⟩ : Blk W6 (W0.heap.size) [.int .i64 x1, .int .i64 x2, .int .i64 x3, .int .i64 y1, .int .i64 y2, .int .i64 y3] ∧ Blk W6 (W0.heap.size + 1) [.int .i64 a1, .int .i64 a2, .int .i64 a3, .int .i64 b1, .int .i64 b2, .int .i64 b3] ∧ Blk W6 (W1.heap.size) [.int .i64 p, .int .i64 q, .int .i64 r] ∧ Blk W6 (W2.heap.size) [.int .i64 p, .int .i64 q, .int .i64 r] ∧ Blk W6 (W3.heap.size) [.int .i64 p, .int .i64 (-q), .int .i64 r] ∧ Blk W6 (W4.heap.size) [.int .i64 p, .int .i64 (-q), .int .i64 r] ∧ Blk W6 (W5.heap.size) [.int .i64 u1, .int .i64 u2, .int .i64 u3] := by
       refine ⟨?_, ?_, ?_, ?_, ?_, ?_, ?_⟩ <;> refine Blk.keep hb ?_ <;> (repeat' (first | (with_reducible first | assumption | apply Blk.set | (refine Blk.new ?_; focus (first | rfl | (simp; done))) | refine Blk.alloc ?_ _ | refine Blk.other ?_ ?_ _) | exact eqL rfl | (refine neB ?_; omega)))
     have ca := Ba.cell
     have fa := Ba.free
     have la_W6 := Ba.lt
     have cb := Bb.cell
     have fb := Bb.free
     have lb_W6 := Bb.lt
     have co := Bo.cell
     have fo := Bo.free
     have lo_W6 := Bo.lt
     have cw := Bw.cell
     have fw := Bw.free
     have lw_W6 := Bw.lt
     have cx := Bx.cell
     have fx := Bx.free
     have lx_W6 := Bx.lt
     have cm := Bm.cell
     have fm := Bm.free
     have lm_W6 := Bm.lt
     have cu := Bu.cell
     have fu := Bu.free
     have lu_W6 := Bu.lt
     have kaW6 : Acc w W6 := by
       refine Acc.call ?_ hb
       (repeat' (first | (with_reducible first | assumption | exact Acc.refl _ | refine Acc.alloc ?_ _ | refine Acc.setCell ?_ ?_ _) | (refine leB ?_; omega)))
     clear hb
     go_wp2_with fail
     cases ht : timesF u1 u2 u3 v1 v2 v3 with
     | none =>
      have HT := Lib.hid ht
      clear ht
      refine (gave_none HT.out (implTimes_any u1 u2 u3 v1 v2 v3 hu1 hu2 hu3 hv1 hv2 hv3 _ (HL.out _ (by repeat' (first | (with_reducible first | assumption | exact Acc.refl _ | refine Acc.alloc ?_ _ | refine Acc.setCell ?_ ?_ _) | (refine leB ?_; omega)))))).mono ?_
      rintro e W7 ⟨rfl, hb⟩
      obtain ⟨Ba, Bb, Bo, Bw, Bx, Bm, Bu, Bv⟩ : Blk W7 (W0.heap.size) [.int .i64 x1, .int .i64 x2, .int .i64 x3, .int .i64 y1, .int .i64 y2, .int .i64 y3] ∧ Blk W7 (W0.heap.size + 1) [.int .i64 a1, .int .i64 a2, .int .i64 a3, .int .i64 b1, .int .i64 b2, .int .i64 b3] ∧ Blk W7 (W1.heap.size) [.int .i64 p, .int .i64 q, .int .i64 r] ∧ Blk W7 (W2.heap.size) [.int .i64 p, .int .i64 q, .int .i64 r] ∧ Blk W7 (W3.heap.size) [.int .i64 p, .int .i64 (-q), .int .i64 r] ∧ Blk W7 (W4.heap.size) [.int .i64 p, .int .i64 (-q), .int .i64 r] ∧ Blk W7 (W5.heap.size) [.int .i64 u1, .int .i64 u2, .int .i64 u3] ∧ Blk W7 (W6.heap.size) [.int .i64 v1, .int .i64 v2, .int .i64 v3] := by
        refine ⟨?_, ?_, ?_, ?_, ?_, ?_, ?_, ?_⟩ <;> refine Blk.keep hb ?_ <;> (repeat' (first | (with_reducible first | assumption | apply Blk.set | (refine Blk.new ?_; focus (first | rfl | (simp; done))) | refine Blk.alloc ?_ _ | refine Blk.other ?_ ?_ _) | exact eqL rfl | (refine neB ?_; omega)))
      have ca := Ba.cell
      have fa := Ba.free
      have la_W7 := Ba.lt
      have cb := Bb.cell
      have fb := Bb.free
      have lb_W7 := Bb.lt
      have co := Bo.cell
      have fo := Bo.free
      have lo_W7 := Bo.lt
      have cw := Bw.cell
      have fw := Bw.free
      have lw_W7 := Bw.lt
      have cx := Bx.cell
      have fx := Bx.free
      have lx_W7 := Bx.lt
      have cm := Bm.cell
      have fm := Bm.free
      have lm_W7 := Bm.lt
      have cu := Bu.cell
      have fu := Bu.free
      have lu_W7 := Bu.lt
      have cv := Bv.cell
      have fv := Bv.free
      have lv_W7 := Bv.lt
      have kaW7 : Acc w W7 := by
        refine Acc.call ?_ hb
        (repeat' (first | (with_reducible first | assumption | exact Acc.refl _ | refine Acc.alloc ?_ _ | refine Acc.setCell ?_ ?_ _) | (refine leB ?_; omega)))
      clear hb
      go_wp2_with fail
      obtain ⟨⟨n1, n2, n3⟩, hv⟩ : ∃ o, partsR (powerF p q r) = o := ⟨_, rfl⟩
      obtain ⟨kn, hk⟩ : ∃ k, okR (powerF p q r) = k := ⟨_, rfl⟩
      obtain ⟨hn1, hn2, hn3⟩ := parts_i64 (fun _ _ _ h => power_ok h) hv
      have HV := Lib.hid hv
      have HK := Lib.hid hk
      clear hv hk
      refine (gave_any HV.out HK.out (implPower_any p q r hp hq hr _ (HL.out _ (by repeat' (first | (with_reducible first | assumption | exact Acc.refl _ | refine Acc.alloc ?_ _ | refine Acc.setCell ?_ ?_ _) | (refine leB ?_; omega)))))).mono ?_
      rintro e W8 ⟨rfl, hb⟩
      obtain ⟨Ba, Bb, Bo, Bw, Bx, Bm, Bu, Bv, Bt⟩ : Blk W8 (W0.heap.size) [.int .i64 x1, .int .i64 x2, .int .i64 x3, .int .i64 y1, .int .i64 y2, .int .i64 y3] ∧ Blk W8 (W0.heap.size + 1) [.int .i64 a1, .int .i64 a2, .int .i64 a3, .int .i64 b1, .int .i64 b2, .int .i64 b3] ∧ Blk W8 (W1.heap.size) [.int .i64 p, .int .i64 q, .int .i64 r] ∧ Blk W8 (W2.heap.size) [.int .i64 p, .int .i64 q, .int .i64 r] ∧ Blk W8 (W3.heap.size) [.int .i64 p, .int .i64 (-q), .int .i64 r] ∧ Blk W8 (W4.heap.size) [.int .i64 p, .int .i64 (-q), .int .i64 r] ∧ Blk W8 (W5.heap.size) [.int .i64 u1, .int .i64 u2, .int .i64 u3] ∧ Blk W8 (W6.heap.size) [.int .i64 v1, .int .i64 v2, .int .i64 v3] ∧ Blk W8 (W7.heap.size) [.int .i64 0, .int .i64 0, .int .i64 0] := by
        refine ⟨?_, ?_, ?_, ?_, ?_, ?_, ?_, ?_, ?_⟩ <;> refine Blk.keep hb ?_ <;> (repeat' (first | (with_reducible first | assumption | apply Blk.set | (refine Blk.new ?_; focus (first | rfl | (simp; done))) | refine Blk.alloc ?_ _ | refine Blk.other ?_ ?_ _) | exact eqL rfl | (refine neB ?_; omega)))
      have ca := Ba.cell
      have fa := Ba.free
      have la_W8 := Ba.lt
      have cb := Bb.cell
      have fb := Bb.free
      have lb_W8 := Bb.lt
      have co := Bo.cell
      have fo := Bo.free
      have lo_W8 := Bo.lt
      have cw := Bw.cell
      have fw := Bw.free
      have lw_W8 := Bw.lt
      have cx := Bx.cell
      have fx := Bx.free
      have lx_W8 := Bx.lt
      have cm := Bm.cell
      have fm := Bm.free
      have lm_W8 := Bm.lt
      have cu := Bu.cell
      have fu := Bu.free
      have lu_W8 := Bu.lt
      have cv := Bv.cell
      have fv := Bv.free
      have lv_W8 := Bv.lt
      have ct := Bt.cell
      have ft := Bt.free
      have lt_W8 := Bt.lt
      have kaW8 : Acc w W8 := by
        refine Acc.call ?_ hb
        (repeat' (first | (with_reducible first | assumption | exact Acc.refl _ | refine Acc.alloc ?_ _ | refine Acc.setCell ?_ ?_ _) | (refine leB ?_; omega)))
      clear hb
      go_wp2_with fail
      obtain ⟨c, kc, hc⟩ := cmp_open (compareF n1 n2 n3 0 0 0)
      have HC := Lib.hid hc
      clear hc
      refine (cmpv_any HC.out (implCompare_any n1 n2 n3 0 0 0 hn1 hn2 hn3 i64_0 i64_0 i64_0 _ (HL.out _ (by repeat' (first | (with_reducible first | assumption | exact Acc.refl _ | refine Acc.alloc ?_ _ | refine Acc.setCell ?_ ?_ _) | (refine leB ?_; omega)))))).mono ?_
      rintro e W9 ⟨rfl, hb⟩
      obtain ⟨Ba, Bb, Bo, Bw, Bx, Bm, Bu, Bv, Bt, Bn⟩ : Blk W9 (W0.heap.size) [.int .i64 x1, .int .i64 x2, .int .i64 x3, .int .i64 y1, .int .i64 y2, .int .i64 y3] ∧ Blk W9 (W0.heap.size + 1) [.int .i64 a1, .int .i64 a2, .int .i64 a3, .int .i64 b1, .int .i64 b2, .int .i64 b3] ∧ Blk W9 (W1.heap.size) [.int .i64 p, .int .i64 q, .int .i64 r] ∧ Blk W9 (W2.heap.size) [.int .i64 p, .int .i64 q, .int .i64 r] ∧ Blk W9 (W3.heap.size) [.int .i64 p, .int .i64 (-q), .int .i64 r] ∧ Blk W9 (W4.heap.size) [.int .i64 p, .int .i64 (-q), .int .i64 r] ∧ Blk W9 (W5.heap.size) [.int .i64 u1, .int .i64 u2, .int .i64 u3] ∧ Blk W9 (W6.heap.size) [.int .i64 v1, .int .i64 v2, .int .i64 v3] ∧ Blk W9 (W7.heap.size) [.int .i64 0, .int .i64 0, .int .i64 0] ∧ Blk W9 (W8.heap.size) [.int .i64 n1, .int .i64 n2, .int .i64 n3] := by
        refine ⟨?_, ?_, ?_, ?_, ?_, ?_, ?_, ?_, ?_, ?_⟩ <;> refine Blk.keep hb ?_ <;> (repeat' (first | (with_reducible first | assumption | apply Blk.set | (refine Blk.new ?_; focus (first | rfl | (simp; done))) | refine Blk.alloc ?_ _ | refine Blk.other ?_ ?_ _) | exact eqL rfl | (refine neB ?_; omega)))
      have ca := Ba.cell
      have fa := Ba.free
      have la_W9 := Ba.lt
      have cb := Bb.cell
      have fb := Bb.free
      have lb_W9 := Bb.lt
      have co := Bo.cell
      have fo := Bo.free
      have lo_W9 := Bo.lt
      have cw := Bw.cell
      have fw := Bw.free
      have lw_W9 := Bw.lt
      have cx := Bx.cell
      have fx := Bx.free
      have lx_W9 := Bx.lt
      have cm := Bm.cell
      have fm := Bm.free
      have lm_W9 := Bm.lt
      have cu := Bu.cell
      have fu := Bu.free
      have lu_W9 := Bu.lt
      have cv := Bv.cell
      have fv := Bv.free
      have lv_W9 := Bv.lt
      have ct := Bt.cell
      have ft := Bt.free
      have lt_W9 := Bt.lt
      have cn := Bn.cell
      have fn := Bn.free
      have ln_W9 := Bn.lt
      have kaW9 : Acc w W9 := by
        refine Acc.call ?_ hb
        (repeat' (first | (with_reducible first | assumption | exact Acc.refl _ | refine Acc.alloc ?_ _ | refine Acc.setCell ?_ ?_ _) | (refine leB ?_; omega)))
      clear hb
      go_wp2_with fail
      all_goals
        go_ret
        refine ⟨by first | rfl | (simp [*]; done) | (simp [go_sem, *]; done), ?_⟩
        show Acc w _
        (repeat' (first | (with_reducible first | assumption | exact Acc.refl _ | refine Acc.alloc ?_ _ | refine Acc.setCell ?_ ?_ _) | (refine leB ?_; omega)))
     | some v =>
      obtain ⟨t1, t2, t3⟩ := v
      obtain ⟨ht1, ht2, ht3⟩ := okF_i64 (times_ok ht)
      have HT := Lib.hid ht
      clear ht
      refine (gave_some HT.out (implTimes_any u1 u2 u3 v1 v2 v3 hu1 hu2 hu3 hv1 hv2 hv3 _ (HL.out _ (by repeat' (first | (with_reducible first | assumption | exact Acc.refl _ | refine Acc.alloc ?_ _ | refine Acc.setCell ?_ ?_ _) | (refine leB ?_; omega)))))).mono ?_
      rintro e W7 ⟨rfl, hb⟩
      obtain ⟨Ba, Bb, Bo, Bw, Bx, Bm, Bu, Bv⟩ : Blk W7 (W0.heap.size) [.int .i64 x1, .int .i64 x2, .int .i64 x3, .int .i64 y1, .int .i64 y2, .int .i64 y3] ∧ Blk W7 (W0.heap.size + 1) [.int .i64 a1, .int .i64 a2, .int .i64 a3, .int .i64 b1, .int .i64 b2, .int .i64 b3] ∧ Blk W7 (W1.heap.size) [.int .i64 p, .int .i64 q, .int .i64 r] ∧ Blk W7 (W2.heap.size) [.int .i64 p, .int .i64 q, .int .i64 r] ∧ Blk W7 (W3.heap.size) [.int .i64 p, .int .i64 (-q), .int .i64 r] ∧ Blk W7 (W4.heap.size) [.int .i64 p, .int .i64 (-q), .int .i64 r] ∧ Blk W7 (W5.heap.size) [.int .i64 u1, .int .i64 u2, .int .i64 u3] ∧ Blk W7 (W6.heap.size) [.int .i64 v1, .int .i64 v2, .int .i64 v3] := by
        refine ⟨?_, ?_, ?_, ?_, ?_, ?_, ?_, ?_⟩ <;> refine Blk.keep hb ?_ <;> (repeat' (first | (with_reducible first | assumption | apply Blk.set | (refine Blk.new ?_; focus (first | rfl | (simp; done))) | refine Blk.alloc ?_ _ | refine Blk.other ?_ ?_ _) | exact eqL rfl | (refine neB ?_; omega)))
      have ca := Ba.cell
      have fa := Ba.free
      have la_W7 := Ba.lt
      have cb := Bb.cell
      have fb := Bb.free
      have lb_W7 := Bb.lt
      have co := Bo.cell
      have fo := Bo.free
      have lo_W7 := Bo.lt
      have cw := Bw.cell
      have fw := Bw.free
      have lw_W7 := Bw.lt
      have cx := Bx.cell
      have fx := Bx.free
      have lx_W7 := Bx.lt
      have cm := Bm.cell
      have fm := Bm.free
      have lm_W7 := Bm.lt
      have cu := Bu.cell
      have fu := Bu.free
      have lu_W7 := Bu.lt
      have cv := Bv.cell
      have fv := Bv.free
      have lv_W7 := Bv.lt
      have kaW7 : Acc w W7 := by
        refine Acc.call ?_ hb
        (repeat' (first | (with_reducible first | assumption | exact Acc.refl _ | refine Acc.alloc ?_ _ | refine Acc.setCell ?_ ?_ _) | (refine leB ?_; omega)))
      clear hb
      go_wp2_with fail
      cases ht : powerF p q r with
      | none =>
       have HN := Lib.hid ht
       clear ht
       refine (gave_none HN.out (implPower_any p q r hp hq hr _ (HL.out _ (by repeat' (first | (with_reducible first | assumption | exact Acc.refl _ | refine Acc.alloc ?_ _ | refine Acc.setCell ?_ ?_ _) | (refine leB ?_; omega)))))).mono ?_
       rintro e W8 ⟨rfl, hb⟩
       obtain ⟨Ba, Bb, Bo, Bw, Bx, Bm, Bu, Bv, Bt⟩ : Blk W8 (W0.heap.size) [.int .i64 x1, .int .i64 x2, .int .i64 x3, .int .i64 y1, .int .i64 y2, .int .i64 y3] ∧ Blk W8 (W0.heap.size + 1) [.int .i64 a1, .int .i64 a2, .int .i64 a3, .int .i64 b1, .int .i64 b2, .int .i64 b3] ∧ Blk W8 (W1.heap.size) [.int .i64 p, .int .i64 q, .int .i64 r] ∧ Blk W8 (W2.heap.size) [.int .i64 p, .int .i64 q, .int .i64 r] ∧ Blk W8 (W3.heap.size) [.int .i64 p, .int .i64 (-q), .int .i64 r] ∧ Blk W8 (W4.heap.size) [.int .i64 p, .int .i64 (-q), .int .i64 r] ∧ Blk W8 (W5.heap.size) [.int .i64 u1, .int .i64 u2, .int .i64 u3] ∧ Blk W8 (W6.heap.size) [.int .i64 v1, .int .i64 v2, .int .i64 v3] ∧ Blk W8 (W7.heap.size) [.int .i64 t1, .int .i64 t2, .int .i64 t3] := by
         refine ⟨?_, ?_, ?_, ?_, ?_, ?_, ?_, ?_, ?_⟩ <;> refine Blk.keep hb ?_ <;> (repeat' (first | (with_reducible first | assumption | apply Blk.set | (refine Blk.new ?_; focus (first | rfl | (simp; done))) | refine Blk.alloc ?_ _ | refine Blk.other ?_ ?_ _) | exact eqL rfl | (refine neB ?_; omega)))
       have ca := Ba.cell
       have fa := Ba.free
       have la_W8 := Ba.lt
       have cb := Bb.cell
       have fb := Bb.free
       have lb_W8 := Bb.lt
       have co := Bo.cell
       have fo := Bo.free
       have lo_W8 := Bo.lt
       have cw := Bw.cell
       have fw := Bw.free
       have lw_W8 := Bw.lt
       have cx := Bx.cell
       have fx := Bx.free
       have lx_W8 := Bx.lt
       have cm := Bm.cell
       have fm := Bm.free
       have lm_W8 := Bm.lt
       have cu := Bu.cell
       have fu := Bu.free
       have lu_W8 := Bu.lt
       have cv := Bv.cell
       have fv := Bv.free
       have lv_W8 := Bv.lt
       have ct := Bt.cell
       have ft := Bt.free
       have lt_W8 := Bt.lt
       have kaW8 : Acc w W8 := by
         refine Acc.call ?_ hb
         (repeat' (first | (with_reducible first | assumption | exact Acc.refl _ | refine Acc.alloc ?_ _ | refine Acc.setCell ?_ ?_ _) | (refine leB ?_; omega)))
       clear hb
       go_wp2_with fail
       obtain ⟨c, kc, hc⟩ := cmp_open (compareF 0 0 0 t1 t2 t3)
       have HC := Lib.hid hc
       clear hc
       refine (cmpv_any HC.out (implCompare_any 0 0 0 t1 t2 t3 i64_0 i64_0 i64_0 ht1 ht2 ht3 _ (HL.out _ (by repeat' (first | (with_reducible first | assumption | exact Acc.refl _ | refine Acc.alloc ?_ _ | refine Acc.setCell ?_ ?_ _) | (refine leB ?_; omega)))))).mono ?_
       rintro e W9 ⟨rfl, hb⟩
       obtain ⟨Ba, Bb, Bo, Bw, Bx, Bm, Bu, Bv, Bt, Bn⟩ : Blk W9 (W0.heap.size) [.int .i64 x1, .int .i64 x2, .int .i64 x3, .int .i64 y1, .int .i64 y2, .int .i64 y3] ∧ Blk W9 (W0.heap.size + 1) [.int .i64 a1, .int .i64 a2, .int .i64 a3, .int .i64 b1, .int .i64 b2, .int .i64 b3] ∧ Blk W9 (W1.heap.size) [.int .i64 p, .int .i64 q, .int .i64 r] ∧ Blk W9 (W2.heap.size) [.int .i64 p, .int .i64 q, .int .i64 r] ∧ Blk W9 (W3.heap.size) [.int .i64 p, .int .i64 (-q), .int .i64 r] ∧ Blk W9 (W4.heap.size) [.int .i64 p, .int .i64 (-q), .int .i64 r] ∧ Blk W9 (W5.heap.size) [.int .i64 u1, .int .i64 u2, .int .i64 u3] ∧ Blk W9 (W6.heap.size) [.int .i64 v1, .int .i64 v2, .int .i64 v3] ∧ Blk W9 (W7.heap.size) [.int .i64 t1, .int .i64 t2, .int .i64 t3] ∧ Blk W9 (W8.heap.size) [.int .i64 0, .int .i64 0, .int .i64 0] := by
         refine ⟨?_, ?_, ?_, ?_, ?_, ?_, ?_, ?_, ?_, ?_⟩ <;> refine Blk.keep hb ?_ <;> (repeat' (first | (with_reducible first | assumption | apply Blk.set | (refine Blk.new ?_; focus (first | rfl | (simp; done))) | refine Blk.alloc ?_ _ | refine Blk.other ?_ ?_ _) | exact eqL rfl | (refine neB ?_; omega)))
       have ca := Ba.cell
       have fa := Ba.free
       have la_W9 := Ba.lt
       have cb := Bb.cell
       have fb := Bb.free
       have lb_W9 := Bb.lt
       have co := Bo.cell
       have fo := Bo.free
       have lo_W9 := Bo.lt
       have cw := Bw.cell
       have fw := Bw.free
       have lw_W9 := Bw.lt
       have cx := Bx.cell
       have fx := Bx.free
       have lx_W9 := Bx.lt
       have cm := Bm.cell
       have fm := Bm.free
       have lm_W9 := Bm.lt
       have cu := Bu.cell
       have fu := Bu.free
       have lu_W9 := Bu.lt
       have cv := Bv.cell
       have fv := Bv.free
       have lv_W9 := Bv.lt
       have ct := Bt.cell
       have ft := Bt.free
       have lt_W9 := Bt.lt
       have cn := Bn.cell
       have fn := Bn.free
       have ln_W9 := Bn.lt
       have kaW9 : Acc w W9 := by
         refine Acc.call ?_ hb
         (repeat' (first | (with_reducible first | assumption | exact Acc.refl _ | refine Acc.alloc ?_ _ | refine Acc.setCell ?_ ?_ _) | (refine leB ?_; omega)))
       clear hb
       go_wp2_with fail
       all_goals
         go_ret
         refine ⟨by first | rfl | (simp [*]; done) | (simp [go_sem, *]; done), ?_⟩
         show Acc w _
         (repeat' (first | (with_reducible first | assumption | exact Acc.refl _ | refine Acc.alloc ?_ _ | refine Acc.setCell ?_ ?_ _) | (refine leB ?_; omega)))
      | some v =>
       obtain ⟨n1, n2, n3⟩ := v
       obtain ⟨hn1, hn2, hn3⟩ := okF_i64 (power_ok ht)
       have HN := Lib.hid ht
       clear ht
       refine (gave_some HN.out (implPower_any p q r hp hq hr _ (HL.out _ (by repeat' (first | (with_reducible first | assumption | exact Acc.refl _ | refine Acc.alloc ?_ _ | refine Acc.setCell ?_ ?_ _) | (refine leB ?_; omega)))))).mono ?_
       rintro e W8 ⟨rfl, hb⟩
       obtain ⟨Ba, Bb, Bo, Bw, Bx, Bm, Bu, Bv, Bt⟩ : Blk W8 (W0.heap.size) [.int .i64 x1, .int .i64 x2, .int .i64 x3, .int .i64 y1, .int .i64 y2, .int .i64 y3] ∧ Blk W8 (W0.heap.size + 1) [.int .i64 a1, .int .i64 a2, .int .i64 a3, .int .i64 b1, .int .i64 b2, .int .i64 b3] ∧ Blk W8 (W1.heap.size) [.int .i64 p, .int .i64 q, .int .i64 r] ∧ Blk W8 (W2.heap.size) [.int .i64 p, .int .i64 q, .int .i64 r] ∧ Blk W8 (W3.heap.size) [.int .i64 p, .int .i64 (-q), .int .i64 r] ∧ Blk W8 (W4.heap.size) [.int .i64 p, .int .i64 (-q), .int .i64 r] ∧ Blk W8 (W5.heap.size) [.int .i64 u1, .int .i64 u2, .int .i64 u3] ∧ Blk W8 (W6.heap.size) [.int .i64 v1, .int .i64 v2, .int .i64 v3] ∧ Blk W8 (W7.heap.size) [.int .i64 t1, .int .i64 t2, .int .i64 t3] := by
         refine ⟨?_, ?_, ?_, ?_, ?_, ?_, ?_, ?_, ?_⟩ <;> refine Blk.keep hb ?_ <;> (repeat' (first | (with_reducible first | assumption | apply Blk.set | (refine Blk.new ?_; focus (first | rfl | (simp; done))) | refine Blk.alloc ?_ _ | refine Blk.other ?_ ?_ _) | exact eqL rfl | (refine neB ?_; omega)))
       have ca := Ba.cell
       have fa := Ba.free
       have la_W8 := Ba.lt
       have cb := Bb.cell
       have fb := Bb.free
       have lb_W8 := Bb.lt
       have co := Bo.cell
       have fo := Bo.free
       have lo_W8 := Bo.lt
       have cw := Bw.cell
       have fw := Bw.free
       have lw_W8 := Bw.lt
       have cx := Bx.cell
       have fx := Bx.free
       have lx_W8 := Bx.lt
       have cm := Bm.cell
       have fm := Bm.free
       have lm_W8 := Bm.lt
       have cu := Bu.cell
       have fu := Bu.free
       have lu_W8 := Bu.lt
       have cv := Bv.cell
       have fv := Bv.free
       have lv_W8 := Bv.lt
       have ct := Bt.cell
       have ft := Bt.free
       have lt_W8 := Bt.lt
       have kaW8 : Acc w W8 := by
         refine Acc.call ?_ hb
         (repeat' (first | (with_reducible first | assumption | exact Acc.refl _ | refine Acc.alloc ?_ _ | refine Acc.setCell ?_ ?_ _) | (refine leB ?_; omega)))
       clear hb
       go_wp2_with fail
       obtain ⟨c, hc, hc0⟩ := cauchy HO.out HU.out HV.out HT.out HN.out
       have HC := Lib.hid hc
       clear hc
       refine (cmpv_any (show cmpV (compareF n1 n2 n3 t1 t2 t3) = .tuple #[.int .i64 c, .bool true] by rw [HC.out]; rfl) (implCompare_any n1 n2 n3 t1 t2 t3 hn1 hn2 hn3 ht1 ht2 ht3 _ (HL.out _ (by repeat' (first | (with_reducible first | assumption | exact Acc.refl _ | refine Acc.alloc ?_ _ | refine Acc.setCell ?_ ?_ _) | (refine leB ?_; omega)))))).mono ?_
       rintro e W9 ⟨rfl, hb⟩
       obtain ⟨Ba, Bb, Bo, Bw, Bx, Bm, Bu, Bv, Bt, Bn⟩ : Blk W9 (W0.heap.size) [.int .i64 x1, .int .i64 x2, .int .i64 x3, .int .i64 y1, .int .i64 y2, .int .i64 y3] ∧ Blk W9 (W0.heap.size + 1) [.int .i64 a1, .int .i64 a2, .int .i64 a3, .int .i64 b1, .int .i64 b2, .int .i64 b3] ∧ Blk W9 (W1.heap.size) [.int .i64 p, .int .i64 q, .int .i64 r] ∧ Blk W9 (W2.heap.size) [.int .i64 p, .int .i64 q, .int .i64 r] ∧ Blk W9 (W3.heap.size) [.int .i64 p, .int .i64 (-q), .int .i64 r] ∧ Blk W9 (W4.heap.size) [.int .i64 p, .int .i64 (-q), .int .i64 r] ∧ Blk W9 (W5.heap.size) [.int .i64 u1, .int .i64 u2, .int .i64 u3] ∧ Blk W9 (W6.heap.size) [.int .i64 v1, .int .i64 v2, .int .i64 v3] ∧ Blk W9 (W7.heap.size) [.int .i64 t1, .int .i64 t2, .int .i64 t3] ∧ Blk W9 (W8.heap.size) [.int .i64 n1, .int .i64 n2, .int .i64 n3] := by
         refine ⟨?_, ?_, ?_, ?_, ?_, ?_, ?_, ?_, ?_, ?_⟩ <;> refine Blk.keep hb ?_ <;> (repeat' (first | (with_reducible first | assumption | apply Blk.set | (refine Blk.new ?_; focus (first | rfl | (simp; done))) | refine Blk.alloc ?_ _ | refine Blk.other ?_ ?_ _) | exact eqL rfl | (refine neB ?_; omega)))
       have ca := Ba.cell
       have fa := Ba.free
       have la_W9 := Ba.lt
       have cb := Bb.cell
       have fb := Bb.free
       have lb_W9 := Bb.lt
       have co := Bo.cell
       have fo := Bo.free
       have lo_W9 := Bo.lt
       have cw := Bw.cell
       have fw := Bw.free
       have lw_W9 := Bw.lt
       have cx := Bx.cell
       have fx := Bx.free
       have lx_W9 := Bx.lt
       have cm := Bm.cell
       have fm := Bm.free
       have lm_W9 := Bm.lt
       have cu := Bu.cell
       have fu := Bu.free
       have lu_W9 := Bu.lt
       have cv := Bv.cell
       have fv := Bv.free
       have lv_W9 := Bv.lt
       have ct := Bt.cell
       have ft := Bt.free
       have lt_W9 := Bt.lt
       have cn := Bn.cell
       have fn := Bn.free
       have ln_W9 := Bn.lt
       have kaW9 : Acc w W9 := by
         refine Acc.call ?_ hb
         (repeat' (first | (with_reducible first | assumption | exact Acc.refl _ | refine Acc.alloc ?_ _ | refine Acc.setCell ?_ ?_ _) | (refine leB ?_; omega)))
       clear hb
       go_wp2_with fail
       all_goals
         go_ret
         refine ⟨by first | rfl | (simp [*]; done) | (simp [go_sem, *]; done), ?_⟩
         show Acc w _
         (repeat' (first | (with_reducible first | assumption | exact Acc.refl _ | refine Acc.alloc ?_ _ | refine Acc.setCell ?_ ?_ _) | (refine leB ?_; omega)))
end Go.Proofs.YtbihlkienhbapabDoor
