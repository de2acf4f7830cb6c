/-
  The law of vectors across.
-/
import Derived.Test.YtbihlkienhbapabDoorDrawJones
import Derived.Test.YtbihlkienhbapabDoorJonesMath
import Derived.Test.YtbihlkienhbapabDoorGave
import Derived.Test.YtbihlkienhbapabDoorGave6
import Derived.Test.YtbihlkienhbapabDoorImplJ1
import Derived.Test.YtbihlkienhbapabDoorImplJ3
import Derived.Test.YtbihlkienhbapabDoorImplJ4
import Derived.Test.YtbihlkienhbapabDoorImplFn
namespace Go.Proofs.YtbihlkienhbapabDoor
open Go.ChangeShapes Go.WideShapes Go.ChangeAt Go.RowKit
set_option linter.unusedVariables false

set_option maxRecDepth 100000 in
set_option maxHeartbeats 16000000 in
theorem fnCross_law (w : World) (hl : Laid w) (s : Option Addr) (len cap : Nat) (h : Code8 w s len cap) :
    Calls Tryd.prog 8 #[.slice s len cap] w (Fine w) := by
  have hm := h.2.1
  have hl' := h.1
  unfold maxLen at hm
  have HL := Lib.hid fun W (k : Acc w W) => hl.acc k
  clear hl
  by_cases hlen : 1048576 < len
  · clear h
    have hlen' : (1048576 : Int) < (len : Int) := by omega
    go_enter Tryd.func8, Tryd.ntmps8
    go_wp2_with fail
    go_ret
    exact ⟨rfl, Below.refl _ _⟩
  have hlen' : ¬ (1048576 : Int) < (len : Int) := by omega
  go_enter Tryd.func8, Tryd.ntmps8
  go_wp2_with fail
  refine (drawJonesCross_any s len cap w h).mono ?_
  rintro e W0 ⟨x1, x2, x3, y1, y2, y3, rfl, hx1, hx2, hx3, hy1, hy2, hy3, hb⟩
  have kaW0 : Acc w W0 := hb
  clear hb h
  go_wp2_with fail
  cases ho : jcrossF x1 x2 x3 y1 y2 y3 with
  | none =>
   have HO := Lib.hid ho
   clear ho
   refine (gave6_none HO.out (implJCross_any x1 x2 x3 y1 y2 y3 hx1 hx2 hx3 hy1 hy2 hy3 _ (HL.out _ (by repeat' (first | (with_reducible first | assumption | exact Acc.refl _ | refine Acc.alloc ?_ _ | refine Acc.setCell ?_ ?_ _) | (refine leB ?_; omega)))))).mono ?_
   rintro e W1 ⟨rfl, hb⟩
   have Ba : Blk W1 (W0.heap.size) [.int .i64 x1, .int .i64 x2, .int .i64 x3, .int .i64 y1, .int .i64 y2, .int .i64 y3] := Blk.keep hb (by repeat' (first | (with_reducible first | assumption | apply Blk.set | (refine Blk.new ?_; focus (first | rfl | (simp; done))) | refine Blk.alloc ?_ _ | refine Blk.other ?_ ?_ _) | exact eqL rfl | (refine neB ?_; omega)))
   have ca := Ba.cell
   have fa := Ba.free
   have la_W1 := Ba.lt
   have kaW1 : Acc w W1 := by
     refine Acc.call ?_ hb
     (repeat' (first | (with_reducible first | assumption | exact Acc.refl _ | refine Acc.alloc ?_ _ | refine Acc.setCell ?_ ?_ _) | (refine leB ?_; omega)))
   clear hb
   go_wp2_with fail
   refine (gave6_none HO.out (specJCross_any x1 x2 x3 y1 y2 y3 _)).mono ?_
   rintro e W2 ⟨rfl, hb⟩
   obtain ⟨Ba, Bo⟩ : Blk W2 (W0.heap.size) [.int .i64 x1, .int .i64 x2, .int .i64 x3, .int .i64 y1, .int .i64 y2, .int .i64 y3] ∧ Blk W2 (W1.heap.size) [.int .i64 0, .int .i64 0, .int .i64 0, .int .i64 0, .int .i64 0, .int .i64 0] := by
     refine ⟨?_, ?_⟩ <;> refine Blk.keep hb ?_ <;> (repeat' (first | (with_reducible first | assumption | apply Blk.set | (refine Blk.new ?_; focus (first | rfl | (simp; done))) | refine Blk.alloc ?_ _ | refine Blk.other ?_ ?_ _) | exact eqL rfl | (refine neB ?_; omega)))
   have ca := Ba.cell
   have fa := Ba.free
   have la_W2 := Ba.lt
   have co := Bo.cell
   have fo := Bo.free
   have lo_W2 := Bo.lt
   have kaW2 : Acc w W2 := by
     refine Acc.call ?_ hb
     (repeat' (first | (with_reducible first | assumption | exact Acc.refl _ | refine Acc.alloc ?_ _ | refine Acc.setCell ?_ ?_ _) | (refine leB ?_; omega)))
   clear hb
   go_wp2_with fail
   go_ret
   refine ⟨rfl, ?_⟩
   show Acc w _
   (repeat' (first | (with_reducible first | assumption | exact Acc.refl _ | refine Acc.alloc ?_ _ | refine Acc.setCell ?_ ?_ _) | (refine leB ?_; omega)))
  | some v =>
   obtain ⟨⟨u1, u2, u3⟩, v1, v2, v3⟩ := v
   obtain ⟨kx, ky, he⟩ := cross_some ho
   obtain ⟨⟩ := he
   obtain ⟨hny1, _, _⟩ := okF_i64 (okF_nx ky)
   obtain ⟨_, hnx2, _⟩ := okF_i64 ((okF_neg1 x1 x2 x3).trans kx)
   have hb := cross_of (okF_nx ky) ((okF_neg1 x1 x2 x3).trans kx)
   have HO := Lib.hid ho
   have HB := Lib.hid hb
   have HM := Lib.hid (jminus kx ky)
   clear ho hb kx ky
   refine (gave6_some HO.out (implJCross_any x1 x2 x3 y1 y2 y3 hx1 hx2 hx3 hy1 hy2 hy3 _ (HL.out _ (by repeat' (first | (with_reducible first | assumption | exact Acc.refl _ | refine Acc.alloc ?_ _ | refine Acc.setCell ?_ ?_ _) | (refine leB ?_; omega)))))).mono ?_
   rintro e W1 ⟨rfl, hb⟩
   have Ba : Blk W1 (W0.heap.size) [.int .i64 x1, .int .i64 x2, .int .i64 x3, .int .i64 y1, .int .i64 y2, .int .i64 y3] := Blk.keep hb (by repeat' (first | (with_reducible first | assumption | apply Blk.set | (refine Blk.new ?_; focus (first | rfl | (simp; done))) | refine Blk.alloc ?_ _ | refine Blk.other ?_ ?_ _) | exact eqL rfl | (refine neB ?_; omega)))
   have ca := Ba.cell
   have fa := Ba.free
   have la_W1 := Ba.lt
   have kaW1 : Acc w W1 := by
     refine Acc.call ?_ hb
     (repeat' (first | (with_reducible first | assumption | exact Acc.refl _ | refine Acc.alloc ?_ _ | refine Acc.setCell ?_ ?_ _) | (refine leB ?_; omega)))
   clear hb
   go_wp2_with fail
   refine (gave6_some HO.out (specJCross_any x1 x2 x3 y1 y2 y3 _)).mono ?_
   rintro e W2 ⟨rfl, hb⟩
   obtain ⟨Ba, Bo⟩ : Blk W2 (W0.heap.size) [.int .i64 x1, .int .i64 x2, .int .i64 x3, .int .i64 y1, .int .i64 y2, .int .i64 y3] ∧ Blk W2 (W1.heap.size) [.int .i64 (-y1), .int .i64 y2, .int .i64 y3, .int .i64 x1, .int .i64 (-x2), .int .i64 x3] := by
     refine ⟨?_, ?_⟩ <;> refine Blk.keep hb ?_ <;> (repeat' (first | (with_reducible first | assumption | apply Blk.set | (refine Blk.new ?_; focus (first | rfl | (simp; done))) | refine Blk.alloc ?_ _ | refine Blk.other ?_ ?_ _) | exact eqL rfl | (refine neB ?_; omega)))
   have ca := Ba.cell
   have fa := Ba.free
   have la_W2 := Ba.lt
   have co := Bo.cell
   have fo := Bo.free
   have lo_W2 := Bo.lt
   have kaW2 : Acc w W2 := by
     refine Acc.call ?_ hb
     (repeat' (first | (with_reducible first | assumption | exact Acc.refl _ | refine Acc.alloc ?_ _ | refine Acc.setCell ?_ ?_ _) | (refine leB ?_; omega)))
   clear hb
   go_wp2_with fail
   cases ht : innerF x1 x2 x3 y1 y2 y3 (-y1) y2 y3 x1 (-x2) x3 with
   | none =>
    have HP := Lib.hid ht
    clear ht
    refine (gave_none HP.out (implJInner_any x1 x2 x3 y1 y2 y3 (-y1) y2 y3 x1 (-x2) x3 hx1 hx2 hx3 hy1 hy2 hy3 hny1 hy2 hy3 hx1 hnx2 hx3 _ (HL.out _ (by repeat' (first | (with_reducible first | assumption | exact Acc.refl _ | refine Acc.alloc ?_ _ | refine Acc.setCell ?_ ?_ _) | (refine leB ?_; omega)))))).mono ?_
    rintro e W3 ⟨rfl, hb⟩
    obtain ⟨Ba, Bo, Bw⟩ : Blk W3 (W0.heap.size) [.int .i64 x1, .int .i64 x2, .int .i64 x3, .int .i64 y1, .int .i64 y2, .int .i64 y3] ∧ Blk W3 (W1.heap.size) [.int .i64 (-y1), .int .i64 y2, .int .i64 y3, .int .i64 x1, .int .i64 (-x2), .int .i64 x3] ∧ Blk W3 (W2.heap.size) [.int .i64 (-y1), .int .i64 y2, .int .i64 y3, .int .i64 x1, .int .i64 (-x2), .int .i64 x3] := by
      refine ⟨?_, ?_, ?_⟩ <;> refine Blk.keep hb ?_ <;> (repeat' (first | (with_reducible first | assumption | apply Blk.set | (refine Blk.new ?_; focus (first | rfl | (simp; done))) | refine Blk.alloc ?_ _ | refine Blk.other ?_ ?_ _) | exact eqL rfl | (refine neB ?_; omega)))
    have ca := Ba.cell
    have fa := Ba.free
    have la_W3 := Ba.lt
    have co := Bo.cell
    have fo := Bo.free
    have lo_W3 := Bo.lt
    have cw := Bw.cell
    have fw := Bw.free
    have lw_W3 := Bw.lt
    have kaW3 : Acc w W3 := by
      refine Acc.call ?_ hb
      (repeat' (first | (with_reducible first | assumption | exact Acc.refl _ | refine Acc.alloc ?_ _ | refine Acc.setCell ?_ ?_ _) | (refine leB ?_; omega)))
    clear hb
    go_wp2_with fail
    cases ht : jpowF x1 x2 x3 y1 y2 y3 with
    | none =>
     have HU := Lib.hid ht
     clear ht
     refine (gave_none HU.out (implJPower_any x1 x2 x3 y1 y2 y3 hx1 hx2 hx3 hy1 hy2 hy3 _ (HL.out _ (by repeat' (first | (with_reducible first | assumption | exact Acc.refl _ | refine Acc.alloc ?_ _ | refine Acc.setCell ?_ ?_ _) | (refine leB ?_; omega)))))).mono ?_
     rintro e W4 ⟨rfl, hb⟩
     obtain ⟨Ba, Bo, Bw, Bp⟩ : Blk W4 (W0.heap.size) [.int .i64 x1, .int .i64 x2, .int .i64 x3, .int .i64 y1, .int .i64 y2, .int .i64 y3] ∧ Blk W4 (W1.heap.size) [.int .i64 (-y1), .int .i64 y2, .int .i64 y3, .int .i64 x1, .int .i64 (-x2), .int .i64 x3] ∧ Blk W4 (W2.heap.size) [.int .i64 (-y1), .int .i64 y2, .int .i64 y3, .int .i64 x1, .int .i64 (-x2), .int .i64 x3] ∧ Blk W4 (W3.heap.size) [.int .i64 0, .int .i64 0, .int .i64 0] := by
       refine ⟨?_, ?_, ?_, ?_⟩ <;> refine Blk.keep hb ?_ <;> (repeat' (first | (with_reducible first | assumption | apply Blk.set | (refine Blk.new ?_; focus (first | rfl | (simp; done))) | refine Blk.alloc ?_ _ | refine Blk.other ?_ ?_ _) | exact eqL rfl | (refine neB ?_; omega)))
     have ca := Ba.cell
     have fa := Ba.free
     have la_W4 := Ba.lt
     have co := Bo.cell
     have fo := Bo.free
     have lo_W4 := Bo.lt
     have cw := Bw.cell
     have fw := Bw.free
     have lw_W4 := Bw.lt
     have cp := Bp.cell
     have fp := Bp.free
     have lp_W4 := Bp.lt
     have kaW4 : Acc w W4 := by
       refine Acc.call ?_ hb
       (repeat' (first | (with_reducible first | assumption | exact Acc.refl _ | refine Acc.alloc ?_ _ | refine Acc.setCell ?_ ?_ _) | (refine leB ?_; omega)))
     clear hb
     go_wp2_with fail
     obtain ⟨⟨v1, v2, v3⟩, hv⟩ : ∃ o, partsR (jpowF (-y1) y2 y3 x1 (-x2) x3) = o := ⟨_, rfl⟩
     obtain ⟨kv, hk⟩ : ∃ k, okR (jpowF (-y1) y2 y3 x1 (-x2) x3) = k := ⟨_, rfl⟩
     obtain ⟨hv1, hv2, hv3⟩ := parts_i64 (fun _ _ _ h => jpow_ok h) hv
     have HV := Lib.hid hv
     have HK := Lib.hid hk
     clear hv hk
     refine (gave_any HV.out HK.out (implJPower_any (-y1) y2 y3 x1 (-x2) x3 hny1 hy2 hy3 hx1 hnx2 hx3 _ (HL.out _ (by repeat' (first | (with_reducible first | assumption | exact Acc.refl _ | refine Acc.alloc ?_ _ | refine Acc.setCell ?_ ?_ _) | (refine leB ?_; omega)))))).mono ?_
     rintro e W5 ⟨rfl, hb⟩
     obtain ⟨Ba, Bo, Bw, Bp, Bu⟩ : Blk W5 (W0.heap.size) [.int .i64 x1, .int .i64 x2, .int .i64 x3, .int .i64 y1, .int .i64 y2, .int .i64 y3] ∧ Blk W5 (W1.heap.size) [.int .i64 (-y1), .int .i64 y2, .int .i64 y3, .int .i64 x1, .int .i64 (-x2), .int .i64 x3] ∧ Blk W5 (W2.heap.size) [.int .i64 (-y1), .int .i64 y2, .int .i64 y3, .int .i64 x1, .int .i64 (-x2), .int .i64 x3] ∧ Blk W5 (W3.heap.size) [.int .i64 0, .int .i64 0, .int .i64 0] ∧ Blk W5 (W4.heap.size) [.int .i64 0, .int .i64 0, .int .i64 0] := by
       refine ⟨?_, ?_, ?_, ?_, ?_⟩ <;> refine Blk.keep hb ?_ <;> (repeat' (first | (with_reducible first | assumption | apply Blk.set | (refine Blk.new ?_; focus (first | rfl | (simp; done))) | refine Blk.alloc ?_ _ | refine Blk.other ?_ ?_ _) | exact eqL rfl | (refine neB ?_; omega)))
     have ca := Ba.cell
     have fa := Ba.free
     have la_W5 := Ba.lt
     have co := Bo.cell
     have fo := Bo.free
     have lo_W5 := Bo.lt
     have cw := Bw.cell
     have fw := Bw.free
     have lw_W5 := Bw.lt
     have cp := Bp.cell
     have fp := Bp.free
     have lp_W5 := Bp.lt
     have cu := Bu.cell
     have fu := Bu.free
     have lu_W5 := Bu.lt
     have kaW5 : Acc w W5 := by
       refine Acc.call ?_ hb
       (repeat' (first | (with_reducible first | assumption | exact Acc.refl _ | refine Acc.alloc ?_ _ | refine Acc.setCell ?_ ?_ _) | (refine leB ?_; omega)))
     clear hb
     go_wp2_with fail
     skip
     refine (gave6_some HB.out (implJCross_any (-y1) y2 y3 x1 (-x2) x3 hny1 hy2 hy3 hx1 hnx2 hx3 _ (HL.out _ (by repeat' (first | (with_reducible first | assumption | exact Acc.refl _ | refine Acc.alloc ?_ _ | refine Acc.setCell ?_ ?_ _) | (refine leB ?_; omega)))))).mono ?_
     rintro e W6 ⟨rfl, hb⟩
     obtain ⟨Ba, Bo, Bw, Bp, Bu, Bv⟩ : Blk W6 (W0.heap.size) [.int .i64 x1, .int .i64 x2, .int .i64 x3, .int .i64 y1, .int .i64 y2, .int .i64 y3] ∧ Blk W6 (W1.heap.size) [.int .i64 (-y1), .int .i64 y2, .int .i64 y3, .int .i64 x1, .int .i64 (-x2), .int .i64 x3] ∧ Blk W6 (W2.heap.size) [.int .i64 (-y1), .int .i64 y2, .int .i64 y3, .int .i64 x1, .int .i64 (-x2), .int .i64 x3] ∧ Blk W6 (W3.heap.size) [.int .i64 0, .int .i64 0, .int .i64 0] ∧ Blk W6 (W4.heap.size) [.int .i64 0, .int .i64 0, .int .i64 0] ∧ Blk W6 (W5.heap.size) [.int .i64 v1, .int .i64 v2, .int .i64 v3] := by
       refine ⟨?_, ?_, ?_, ?_, ?_, ?_⟩ <;> refine Blk.keep hb ?_ <;> (repeat' (first | (with_reducible first | assumption | apply Blk.set | (refine Blk.new ?_; focus (first | rfl | (simp; done))) | refine Blk.alloc ?_ _ | refine Blk.other ?_ ?_ _) | exact eqL rfl | (refine neB ?_; omega)))
     have ca := Ba.cell
     have fa := Ba.free
     have la_W6 := Ba.lt
     have co := Bo.cell
     have fo := Bo.free
     have lo_W6 := Bo.lt
     have cw := Bw.cell
     have fw := Bw.free
     have lw_W6 := Bw.lt
     have cp := Bp.cell
     have fp := Bp.free
     have lp_W6 := Bp.lt
     have cu := Bu.cell
     have fu := Bu.free
     have lu_W6 := Bu.lt
     have cv := Bv.cell
     have fv := Bv.free
     have lv_W6 := Bv.lt
     have kaW6 : Acc w W6 := by
       refine Acc.call ?_ hb
       (repeat' (first | (with_reducible first | assumption | exact Acc.refl _ | refine Acc.alloc ?_ _ | refine Acc.setCell ?_ ?_ _) | (refine leB ?_; omega)))
     clear hb
     go_wp2_with fail
     refine (gave6_some HM.out (implJTimes_any x1 x2 x3 y1 y2 y3 (-1) 0 1 hx1 hx2 hx3 hy1 hy2 hy3 i64_m1 i64_0 i64_1 _ (HL.out _ (by repeat' (first | (with_reducible first | assumption | exact Acc.refl _ | refine Acc.alloc ?_ _ | refine Acc.setCell ?_ ?_ _) | (refine leB ?_; omega)))))).mono ?_
     rintro e W7 ⟨rfl, hb⟩
     obtain ⟨Ba, Bo, Bw, Bp, Bu, Bv, Bx⟩ : Blk W7 (W0.heap.size) [.int .i64 x1, .int .i64 x2, .int .i64 x3, .int .i64 y1, .int .i64 y2, .int .i64 y3] ∧ Blk W7 (W1.heap.size) [.int .i64 (-y1), .int .i64 y2, .int .i64 y3, .int .i64 x1, .int .i64 (-x2), .int .i64 x3] ∧ Blk W7 (W2.heap.size) [.int .i64 (-y1), .int .i64 y2, .int .i64 y3, .int .i64 x1, .int .i64 (-x2), .int .i64 x3] ∧ Blk W7 (W3.heap.size) [.int .i64 0, .int .i64 0, .int .i64 0] ∧ Blk W7 (W4.heap.size) [.int .i64 0, .int .i64 0, .int .i64 0] ∧ Blk W7 (W5.heap.size) [.int .i64 v1, .int .i64 v2, .int .i64 v3] ∧ Blk W7 (W6.heap.size) [.int .i64 (-x1), .int .i64 (-x2), .int .i64 x3, .int .i64 (-y1), .int .i64 (-y2), .int .i64 y3] := by
       refine ⟨?_, ?_, ?_, ?_, ?_, ?_, ?_⟩ <;> refine Blk.keep hb ?_ <;> (repeat' (first | (with_reducible first | assumption | apply Blk.set | (refine Blk.new ?_; focus (first | rfl | (simp; done))) | refine Blk.alloc ?_ _ | refine Blk.other ?_ ?_ _) | exact eqL rfl | (refine neB ?_; omega)))
     have ca := Ba.cell
     have fa := Ba.free
     have la_W7 := Ba.lt
     have co := Bo.cell
     have fo := Bo.free
     have lo_W7 := Bo.lt
     have cw := Bw.cell
     have fw := Bw.free
     have lw_W7 := Bw.lt
     have cp := Bp.cell
     have fp := Bp.free
     have lp_W7 := Bp.lt
     have cu := Bu.cell
     have fu := Bu.free
     have lu_W7 := Bu.lt
     have cv := Bv.cell
     have fv := Bv.free
     have lv_W7 := Bv.lt
     have cx := Bx.cell
     have fx := Bx.free
     have lx_W7 := Bx.lt
     have kaW7 : Acc w W7 := by
       refine Acc.call ?_ hb
       (repeat' (first | (with_reducible first | assumption | exact Acc.refl _ | refine Acc.alloc ?_ _ | refine Acc.setCell ?_ ?_ _) | (refine leB ?_; omega)))
     clear hb
     go_wp2_with fail
     all_goals
       go_ret
       refine ⟨by first | rfl | (simp [*]; done) | (simp [go_sem, *]; done), ?_⟩
       show Acc w _
       (repeat' (first | (with_reducible first | assumption | exact Acc.refl _ | refine Acc.alloc ?_ _ | refine Acc.setCell ?_ ?_ _) | (refine leB ?_; omega)))
    | some v =>
     obtain ⟨u1, u2, u3⟩ := v
     obtain ⟨hu1, hu2, hu3⟩ := okF_i64 (jpow_ok ht)
     have HU := Lib.hid ht
     clear ht
     refine (gave_some HU.out (implJPower_any x1 x2 x3 y1 y2 y3 hx1 hx2 hx3 hy1 hy2 hy3 _ (HL.out _ (by repeat' (first | (with_reducible first | assumption | exact Acc.refl _ | refine Acc.alloc ?_ _ | refine Acc.setCell ?_ ?_ _) | (refine leB ?_; omega)))))).mono ?_
     rintro e W4 ⟨rfl, hb⟩
     obtain ⟨Ba, Bo, Bw, Bp⟩ : Blk W4 (W0.heap.size) [.int .i64 x1, .int .i64 x2, .int .i64 x3, .int .i64 y1, .int .i64 y2, .int .i64 y3] ∧ Blk W4 (W1.heap.size) [.int .i64 (-y1), .int .i64 y2, .int .i64 y3, .int .i64 x1, .int .i64 (-x2), .int .i64 x3] ∧ Blk W4 (W2.heap.size) [.int .i64 (-y1), .int .i64 y2, .int .i64 y3, .int .i64 x1, .int .i64 (-x2), .int .i64 x3] ∧ Blk W4 (W3.heap.size) [.int .i64 0, .int .i64 0, .int .i64 0] := by
       refine ⟨?_, ?_, ?_, ?_⟩ <;> refine Blk.keep hb ?_ <;> (repeat' (first | (with_reducible first | assumption | apply Blk.set | (refine Blk.new ?_; focus (first | rfl | (simp; done))) | refine Blk.alloc ?_ _ | refine Blk.other ?_ ?_ _) | exact eqL rfl | (refine neB ?_; omega)))
     have ca := Ba.cell
     have fa := Ba.free
     have la_W4 := Ba.lt
     have co := Bo.cell
     have fo := Bo.free
     have lo_W4 := Bo.lt
     have cw := Bw.cell
     have fw := Bw.free
     have lw_W4 := Bw.lt
     have cp := Bp.cell
     have fp := Bp.free
     have lp_W4 := Bp.lt
     have kaW4 : Acc w W4 := by
       refine Acc.call ?_ hb
       (repeat' (first | (with_reducible first | assumption | exact Acc.refl _ | refine Acc.alloc ?_ _ | refine Acc.setCell ?_ ?_ _) | (refine leB ?_; omega)))
     clear hb
     go_wp2_with fail
     cases ht : jpowF (-y1) y2 y3 x1 (-x2) x3 with
     | none =>
      have HV := Lib.hid ht
      clear ht
      refine (gave_none HV.out (implJPower_any (-y1) y2 y3 x1 (-x2) x3 hny1 hy2 hy3 hx1 hnx2 hx3 _ (HL.out _ (by repeat' (first | (with_reducible first | assumption | exact Acc.refl _ | refine Acc.alloc ?_ _ | refine Acc.setCell ?_ ?_ _) | (refine leB ?_; omega)))))).mono ?_
      rintro e W5 ⟨rfl, hb⟩
      obtain ⟨Ba, Bo, Bw, Bp, Bu⟩ : Blk W5 (W0.heap.size) [.int .i64 x1, .int .i64 x2, .int .i64 x3, .int .i64 y1, .int .i64 y2, .int .i64 y3] ∧ Blk W5 (W1.heap.size) [.int .i64 (-y1), .int .i64 y2, .int .i64 y3, .int .i64 x1, .int .i64 (-x2), .int .i64 x3] ∧ Blk W5 (W2.heap.size) [.int .i64 (-y1), .int .i64 y2, .int .i64 y3, .int .i64 x1, .int .i64 (-x2), .int .i64 x3] ∧ Blk W5 (W3.heap.size) [.int .i64 0, .int .i64 0, .int .i64 0] ∧ Blk W5 (W4.heap.size) [.int .i64 u1, .int .i64 u2, .int .i64 u3] := by
        refine ⟨?_, ?_, ?_, ?_, ?_⟩ <;> refine Blk.keep hb ?_ <;> (repeat' (first | (with_reducible first | assumption | apply Blk.set | (refine Blk.new ?_; focus (first | rfl | (simp; done))) | refine Blk.alloc ?_ _ | refine Blk.other ?_ ?_ _) | exact eqL rfl | (refine neB ?_; omega)))
      have ca := Ba.cell
      have fa := Ba.free
      have la_W5 := Ba.lt
      have co := Bo.cell
      have fo := Bo.free
      have lo_W5 := Bo.lt
      have cw := Bw.cell
      have fw := Bw.free
      have lw_W5 := Bw.lt
      have cp := Bp.cell
      have fp := Bp.free
      have lp_W5 := Bp.lt
      have cu := Bu.cell
      have fu := Bu.free
      have lu_W5 := Bu.lt
      have kaW5 : Acc w W5 := by
        refine Acc.call ?_ hb
        (repeat' (first | (with_reducible first | assumption | exact Acc.refl _ | refine Acc.alloc ?_ _ | refine Acc.setCell ?_ ?_ _) | (refine leB ?_; omega)))
      clear hb
      go_wp2_with fail
      skip
      refine (gave6_some HB.out (implJCross_any (-y1) y2 y3 x1 (-x2) x3 hny1 hy2 hy3 hx1 hnx2 hx3 _ (HL.out _ (by repeat' (first | (with_reducible first | assumption | exact Acc.refl _ | refine Acc.alloc ?_ _ | refine Acc.setCell ?_ ?_ _) | (refine leB ?_; omega)))))).mono ?_
      rintro e W6 ⟨rfl, hb⟩
      obtain ⟨Ba, Bo, Bw, Bp, Bu, Bv⟩ : Blk W6 (W0.heap.size) [.int .i64 x1, .int .i64 x2, .int .i64 x3, .int .i64 y1, .int .i64 y2, .int .i64 y3] ∧ Blk W6 (W1.heap.size) [.int .i64 (-y1), .int .i64 y2, .int .i64 y3, .int .i64 x1, .int .i64 (-x2), .int .i64 x3] ∧ Blk W6 (W2.heap.size) [.int .i64 (-y1), .int .i64 y2, .int .i64 y3, .int .i64 x1, .int .i64 (-x2), .int .i64 x3] ∧ Blk W6 (W3.heap.size) [.int .i64 0, .int .i64 0, .int .i64 0] ∧ Blk W6 (W4.heap.size) [.int .i64 u1, .int .i64 u2, .int .i64 u3] ∧ Blk W6 (W5.heap.size) [.int .i64 0, .int .i64 0, .int .i64 0] := by
        refine ⟨?_, ?_, ?_, ?_, ?_, ?_⟩ <;> refine Blk.keep hb ?_ <;> (repeat' (first | (with_reducible first | assumption | apply Blk.set | (refine Blk.new ?_; focus (first | rfl | (simp; done))) | refine Blk.alloc ?_ _ | refine Blk.other ?_ ?_ _) | exact eqL rfl | (refine neB ?_; omega)))
      have ca := Ba.cell
      have fa := Ba.free
      have la_W6 := Ba.lt
      have co := Bo.cell
      have fo := Bo.free
      have lo_W6 := Bo.lt
      have cw := Bw.cell
      have fw := Bw.free
      have lw_W6 := Bw.lt
      have cp := Bp.cell
      have fp := Bp.free
      have lp_W6 := Bp.lt
      have cu := Bu.cell
      have fu := Bu.free
      have lu_W6 := Bu.lt
      have cv := Bv.cell
      have fv := Bv.free
      have lv_W6 := Bv.lt
      have kaW6 : Acc w W6 := by
        refine Acc.call ?_ hb
        (repeat' (first | (with_reducible first | assumption | exact Acc.refl _ | refine Acc.alloc ?_ _ | refine Acc.setCell ?_ ?_ _) | (refine leB ?_; omega)))
      clear hb
      go_wp2_with fail
      refine (gave6_some HM.out (implJTimes_any x1 x2 x3 y1 y2 y3 (-1) 0 1 hx1 hx2 hx3 hy1 hy2 hy3 i64_m1 i64_0 i64_1 _ (HL.out _ (by repeat' (first | (with_reducible first | assumption | exact Acc.refl _ | refine Acc.alloc ?_ _ | refine Acc.setCell ?_ ?_ _) | (refine leB ?_; omega)))))).mono ?_
      rintro e W7 ⟨rfl, hb⟩
      obtain ⟨Ba, Bo, Bw, Bp, Bu, Bv, Bx⟩ : Blk W7 (W0.heap.size) [.int .i64 x1, .int .i64 x2, .int .i64 x3, .int .i64 y1, .int .i64 y2, .int .i64 y3] ∧ Blk W7 (W1.heap.size) [.int .i64 (-y1), .int .i64 y2, .int .i64 y3, .int .i64 x1, .int .i64 (-x2), .int .i64 x3] ∧ Blk W7 (W2.heap.size) [.int .i64 (-y1), .int .i64 y2, .int .i64 y3, .int .i64 x1, .int .i64 (-x2), .int .i64 x3] ∧ Blk W7 (W3.heap.size) [.int .i64 0, .int .i64 0, .int .i64 0] ∧ Blk W7 (W4.heap.size) [.int .i64 u1, .int .i64 u2, .int .i64 u3] ∧ Blk W7 (W5.heap.size) [.int .i64 0, .int .i64 0, .int .i64 0] ∧ Blk W7 (W6.heap.size) [.int .i64 (-x1), .int .i64 (-x2), .int .i64 x3, .int .i64 (-y1), .int .i64 (-y2), .int .i64 y3] := by
        refine ⟨?_, ?_, ?_, ?_, ?_, ?_, ?_⟩ <;> refine Blk.keep hb ?_ <;> (repeat' (first | (with_reducible first | assumption | apply Blk.set | (refine Blk.new ?_; focus (first | rfl | (simp; done))) | refine Blk.alloc ?_ _ | refine Blk.other ?_ ?_ _) | exact eqL rfl | (refine neB ?_; omega)))
      have ca := Ba.cell
      have fa := Ba.free
      have la_W7 := Ba.lt
      have co := Bo.cell
      have fo := Bo.free
      have lo_W7 := Bo.lt
      have cw := Bw.cell
      have fw := Bw.free
      have lw_W7 := Bw.lt
      have cp := Bp.cell
      have fp := Bp.free
      have lp_W7 := Bp.lt
      have cu := Bu.cell
      have fu := Bu.free
      have lu_W7 := Bu.lt
      have cv := Bv.cell
      have fv := Bv.free
      have lv_W7 := Bv.lt
      have cx := Bx.cell
      have fx := Bx.free
      have lx_W7 := Bx.lt
      have kaW7 : Acc w W7 := by
        refine Acc.call ?_ hb
        (repeat' (first | (with_reducible first | assumption | exact Acc.refl _ | refine Acc.alloc ?_ _ | refine Acc.setCell ?_ ?_ _) | (refine leB ?_; omega)))
      clear hb
      go_wp2_with fail
      all_goals
        go_ret
        refine ⟨by first | rfl | (simp [*]; done) | (simp [go_sem, *]; done), ?_⟩
        show Acc w _
        (repeat' (first | (with_reducible first | assumption | exact Acc.refl _ | refine Acc.alloc ?_ _ | refine Acc.setCell ?_ ?_ _) | (refine leB ?_; omega)))
     | some v =>
      obtain ⟨v1, v2, v3⟩ := v
      obtain ⟨hv1, hv2, hv3⟩ := okF_i64 (jpow_ok ht)
      have HV := Lib.hid ht
      clear ht
      refine (gave_some HV.out (implJPower_any (-y1) y2 y3 x1 (-x2) x3 hny1 hy2 hy3 hx1 hnx2 hx3 _ (HL.out _ (by repeat' (first | (with_reducible first | assumption | exact Acc.refl _ | refine Acc.alloc ?_ _ | refine Acc.setCell ?_ ?_ _) | (refine leB ?_; omega)))))).mono ?_
      rintro e W5 ⟨rfl, hb⟩
      obtain ⟨Ba, Bo, Bw, Bp, Bu⟩ : Blk W5 (W0.heap.size) [.int .i64 x1, .int .i64 x2, .int .i64 x3, .int .i64 y1, .int .i64 y2, .int .i64 y3] ∧ Blk W5 (W1.heap.size) [.int .i64 (-y1), .int .i64 y2, .int .i64 y3, .int .i64 x1, .int .i64 (-x2), .int .i64 x3] ∧ Blk W5 (W2.heap.size) [.int .i64 (-y1), .int .i64 y2, .int .i64 y3, .int .i64 x1, .int .i64 (-x2), .int .i64 x3] ∧ Blk W5 (W3.heap.size) [.int .i64 0, .int .i64 0, .int .i64 0] ∧ Blk W5 (W4.heap.size) [.int .i64 u1, .int .i64 u2, .int .i64 u3] := by
        refine ⟨?_, ?_, ?_, ?_, ?_⟩ <;> refine Blk.keep hb ?_ <;> (repeat' (first | (with_reducible first | assumption | apply Blk.set | (refine Blk.new ?_; focus (first | rfl | (simp; done))) | refine Blk.alloc ?_ _ | refine Blk.other ?_ ?_ _) | exact eqL rfl | (refine neB ?_; omega)))
      have ca := Ba.cell
      have fa := Ba.free
      have la_W5 := Ba.lt
      have co := Bo.cell
      have fo := Bo.free
      have lo_W5 := Bo.lt
      have cw := Bw.cell
      have fw := Bw.free
      have lw_W5 := Bw.lt
      have cp := Bp.cell
      have fp := Bp.free
      have lp_W5 := Bp.lt
      have cu := Bu.cell
      have fu := Bu.free
      have lu_W5 := Bu.lt
      have kaW5 : Acc w W5 := by
        refine Acc.call ?_ hb
        (repeat' (first | (with_reducible first | assumption | exact Acc.refl _ | refine Acc.alloc ?_ _ | refine Acc.setCell ?_ ?_ _) | (refine leB ?_; omega)))
      clear hb
      go_wp2_with fail
      skip
      refine (gave6_some HB.out (implJCross_any (-y1) y2 y3 x1 (-x2) x3 hny1 hy2 hy3 hx1 hnx2 hx3 _ (HL.out _ (by repeat' (first | (with_reducible first | assumption | exact Acc.refl _ | refine Acc.alloc ?_ _ | refine Acc.setCell ?_ ?_ _) | (refine leB ?_; omega)))))).mono ?_
      rintro e W6 ⟨rfl, hb⟩
      obtain ⟨Ba, Bo, Bw, Bp, Bu, Bv⟩ : Blk W6 (W0.heap.size) [.int .i64 x1, .int .i64 x2, .int .i64 x3, .int .i64 y1, .int .i64 y2, .int .i64 y3] ∧ Blk W6 (W1.heap.size) [.int .i64 (-y1), .int .i64 y2, .int .i64 y3, .int .i64 x1, .int .i64 (-x2), .int .i64 x3] ∧ Blk W6 (W2.heap.size) [.int .i64 (-y1), .int .i64 y2, .int .i64 y3, .int .i64 x1, .int .i64 (-x2), .int .i64 x3] ∧ Blk W6 (W3.heap.size) [.int .i64 0, .int .i64 0, .int .i64 0] ∧ Blk W6 (W4.heap.size) [.int .i64 u1, .int .i64 u2, .int .i64 u3] ∧ Blk W6 (W5.heap.size) [.int .i64 v1, .int .i64 v2, .int .i64 v3] := by
        refine ⟨?_, ?_, ?_, ?_, ?_, ?_⟩ <;> refine Blk.keep hb ?_ <;> (repeat' (first | (with_reducible first | assumption | apply Blk.set | (refine Blk.new ?_; focus (first | rfl | (simp; done))) | refine Blk.alloc ?_ _ | refine Blk.other ?_ ?_ _) | exact eqL rfl | (refine neB ?_; omega)))
      have ca := Ba.cell
      have fa := Ba.free
      have la_W6 := Ba.lt
      have co := Bo.cell
      have fo := Bo.free
      have lo_W6 := Bo.lt
      have cw := Bw.cell
      have fw := Bw.free
      have lw_W6 := Bw.lt
      have cp := Bp.cell
      have fp := Bp.free
      have lp_W6 := Bp.lt
      have cu := Bu.cell
      have fu := Bu.free
      have lu_W6 := Bu.lt
      have cv := Bv.cell
      have fv := Bv.free
      have lv_W6 := Bv.lt
      have kaW6 : Acc w W6 := by
        refine Acc.call ?_ hb
        (repeat' (first | (with_reducible first | assumption | exact Acc.refl _ | refine Acc.alloc ?_ _ | refine Acc.setCell ?_ ?_ _) | (refine leB ?_; omega)))
      clear hb
      go_wp2_with fail
      refine (gave6_some HM.out (implJTimes_any x1 x2 x3 y1 y2 y3 (-1) 0 1 hx1 hx2 hx3 hy1 hy2 hy3 i64_m1 i64_0 i64_1 _ (HL.out _ (by repeat' (first | (with_reducible first | assumption | exact Acc.refl _ | refine Acc.alloc ?_ _ | refine Acc.setCell ?_ ?_ _) | (refine leB ?_; omega)))))).mono ?_
      rintro e W7 ⟨rfl, hb⟩
      obtain ⟨Ba, Bo, Bw, Bp, Bu, Bv, Bx⟩ : Blk W7 (W0.heap.size) [.int .i64 x1, .int .i64 x2, .int .i64 x3, .int .i64 y1, .int .i64 y2, .int .i64 y3] ∧ Blk W7 (W1.heap.size) [.int .i64 (-y1), .int .i64 y2, .int .i64 y3, .int .i64 x1, .int .i64 (-x2), .int .i64 x3] ∧ Blk W7 (W2.heap.size) [.int .i64 (-y1), .int .i64 y2, .int .i64 y3, .int .i64 x1, .int .i64 (-x2), .int .i64 x3] ∧ Blk W7 (W3.heap.size) [.int .i64 0, .int .i64 0, .int .i64 0] ∧ Blk W7 (W4.heap.size) [.int .i64 u1, .int .i64 u2, .int .i64 u3] ∧ Blk W7 (W5.heap.size) [.int .i64 v1, .int .i64 v2, .int .i64 v3] ∧ Blk W7 (W6.heap.size) [.int .i64 (-x1), .int .i64 (-x2), .int .i64 x3, .int .i64 (-y1), .int .i64 (-y2), .int .i64 y3] := by
        refine ⟨?_, ?_, ?_, ?_, ?_, ?_, ?_⟩ <;> refine Blk.keep hb ?_ <;> (repeat' (first | (with_reducible first | assumption | apply Blk.set | (refine Blk.new ?_; focus (first | rfl | (simp; done))) | refine Blk.alloc ?_ _ | refine Blk.other ?_ ?_ _) | exact eqL rfl | (refine neB ?_; omega)))
      have ca := Ba.cell
      have fa := Ba.free
      have la_W7 := Ba.lt
      have co := Bo.cell
      have fo := Bo.free
      have lo_W7 := Bo.lt
      have cw := Bw.cell
      have fw := Bw.free
      have lw_W7 := Bw.lt
      have cp := Bp.cell
      have fp := Bp.free
      have lp_W7 := Bp.lt
      have cu := Bu.cell
      have fu := Bu.free
      have lu_W7 := Bu.lt
      have cv := Bv.cell
      have fv := Bv.free
      have lv_W7 := Bv.lt
      have cx := Bx.cell
      have fx := Bx.free
      have lx_W7 := Bx.lt
      have kaW7 : Acc w W7 := by
        refine Acc.call ?_ hb
        (repeat' (first | (with_reducible first | assumption | exact Acc.refl _ | refine Acc.alloc ?_ _ | refine Acc.setCell ?_ ?_ _) | (refine leB ?_; omega)))
      clear hb
      go_wp2_with fail
      all_goals obtain ⟨⟩ := cross_power HU.out HV.out
      all_goals try exact absurd rfl (by assumption)
      all_goals
        go_ret
        refine ⟨by first | rfl | (simp [*]; done) | (simp [go_sem, *]; done), ?_⟩
        show Acc w _
        (repeat' (first | (with_reducible first | assumption | exact Acc.refl _ | refine Acc.alloc ?_ _ | refine Acc.setCell ?_ ?_ _) | (refine leB ?_; omega)))
   | some v =>
    obtain ⟨p1, p2, p3⟩ := v
    obtain ⟨⟩ := cross_zero ht
    have HP := Lib.hid ht
    clear ht
    refine (gave_some HP.out (implJInner_any x1 x2 x3 y1 y2 y3 (-y1) y2 y3 x1 (-x2) x3 hx1 hx2 hx3 hy1 hy2 hy3 hny1 hy2 hy3 hx1 hnx2 hx3 _ (HL.out _ (by repeat' (first | (with_reducible first | assumption | exact Acc.refl _ | refine Acc.alloc ?_ _ | refine Acc.setCell ?_ ?_ _) | (refine leB ?_; omega)))))).mono ?_
    rintro e W3 ⟨rfl, hb⟩
    obtain ⟨Ba, Bo, Bw⟩ : Blk W3 (W0.heap.size) [.int .i64 x1, .int .i64 x2, .int .i64 x3, .int .i64 y1, .int .i64 y2, .int .i64 y3] ∧ Blk W3 (W1.heap.size) [.int .i64 (-y1), .int .i64 y2, .int .i64 y3, .int .i64 x1, .int .i64 (-x2), .int .i64 x3] ∧ Blk W3 (W2.heap.size) [.int .i64 (-y1), .int .i64 y2, .int .i64 y3, .int .i64 x1, .int .i64 (-x2), .int .i64 x3] := by
      refine ⟨?_, ?_, ?_⟩ <;> refine Blk.keep hb ?_ <;> (repeat' (first | (with_reducible first | assumption | apply Blk.set | (refine Blk.new ?_; focus (first | rfl | (simp; done))) | refine Blk.alloc ?_ _ | refine Blk.other ?_ ?_ _) | exact eqL rfl | (refine neB ?_; omega)))
    have ca := Ba.cell
    have fa := Ba.free
    have la_W3 := Ba.lt
    have co := Bo.cell
    have fo := Bo.free
    have lo_W3 := Bo.lt
    have cw := Bw.cell
    have fw := Bw.free
    have lw_W3 := Bw.lt
    have kaW3 : Acc w W3 := by
      refine Acc.call ?_ hb
      (repeat' (first | (with_reducible first | assumption | exact Acc.refl _ | refine Acc.alloc ?_ _ | refine Acc.setCell ?_ ?_ _) | (refine leB ?_; omega)))
    clear hb
    go_wp2_with fail
    cases ht : jpowF x1 x2 x3 y1 y2 y3 with
    | none =>
     have HU := Lib.hid ht
     clear ht
     refine (gave_none HU.out (implJPower_any x1 x2 x3 y1 y2 y3 hx1 hx2 hx3 hy1 hy2 hy3 _ (HL.out _ (by repeat' (first | (with_reducible first | assumption | exact Acc.refl _ | refine Acc.alloc ?_ _ | refine Acc.setCell ?_ ?_ _) | (refine leB ?_; omega)))))).mono ?_
     rintro e W4 ⟨rfl, hb⟩
     obtain ⟨Ba, Bo, Bw, Bp⟩ : Blk W4 (W0.heap.size) [.int .i64 x1, .int .i64 x2, .int .i64 x3, .int .i64 y1, .int .i64 y2, .int .i64 y3] ∧ Blk W4 (W1.heap.size) [.int .i64 (-y1), .int .i64 y2, .int .i64 y3, .int .i64 x1, .int .i64 (-x2), .int .i64 x3] ∧ Blk W4 (W2.heap.size) [.int .i64 (-y1), .int .i64 y2, .int .i64 y3, .int .i64 x1, .int .i64 (-x2), .int .i64 x3] ∧ Blk W4 (W3.heap.size) [.int .i64 0, .int .i64 0, .int .i64 1] := by
       refine ⟨?_, ?_, ?_, ?_⟩ <;> refine Blk.keep hb ?_ <;> (repeat' (first | (with_reducible first | assumption | apply Blk.set | (refine Blk.new ?_; focus (first | rfl | (simp; done))) | refine Blk.alloc ?_ _ | refine Blk.other ?_ ?_ _) | exact eqL rfl | (refine neB ?_; omega)))
     have ca := Ba.cell
     have fa := Ba.free
     have la_W4 := Ba.lt
     have co := Bo.cell
     have fo := Bo.free
     have lo_W4 := Bo.lt
     have cw := Bw.cell
     have fw := Bw.free
     have lw_W4 := Bw.lt
     have cp := Bp.cell
     have fp := Bp.free
     have lp_W4 := Bp.lt
     have kaW4 : Acc w W4 := by
       refine Acc.call ?_ hb
       (repeat' (first | (with_reducible first | assumption | exact Acc.refl _ | refine Acc.alloc ?_ _ | refine Acc.setCell ?_ ?_ _) | (refine leB ?_; omega)))
     clear hb
     go_wp2_with fail
     obtain ⟨⟨v1, v2, v3⟩, hv⟩ : ∃ o, partsR (jpowF (-y1) y2 y3 x1 (-x2) x3) = o := ⟨_, rfl⟩
     obtain ⟨kv, hk⟩ : ∃ k, okR (jpowF (-y1) y2 y3 x1 (-x2) x3) = k := ⟨_, rfl⟩
     obtain ⟨hv1, hv2, hv3⟩ := parts_i64 (fun _ _ _ h => jpow_ok h) hv
     have HV := Lib.hid hv
     have HK := Lib.hid hk
     clear hv hk
     refine (gave_any HV.out HK.out (implJPower_any (-y1) y2 y3 x1 (-x2) x3 hny1 hy2 hy3 hx1 hnx2 hx3 _ (HL.out _ (by repeat' (first | (with_reducible first | assumption | exact Acc.refl _ | refine Acc.alloc ?_ _ | refine Acc.setCell ?_ ?_ _) | (refine leB ?_; omega)))))).mono ?_
     rintro e W5 ⟨rfl, hb⟩
     obtain ⟨Ba, Bo, Bw, Bp, Bu⟩ : Blk W5 (W0.heap.size) [.int .i64 x1, .int .i64 x2, .int .i64 x3, .int .i64 y1, .int .i64 y2, .int .i64 y3] ∧ Blk W5 (W1.heap.size) [.int .i64 (-y1), .int .i64 y2, .int .i64 y3, .int .i64 x1, .int .i64 (-x2), .int .i64 x3] ∧ Blk W5 (W2.heap.size) [.int .i64 (-y1), .int .i64 y2, .int .i64 y3, .int .i64 x1, .int .i64 (-x2), .int .i64 x3] ∧ Blk W5 (W3.heap.size) [.int .i64 0, .int .i64 0, .int .i64 1] ∧ Blk W5 (W4.heap.size) [.int .i64 0, .int .i64 0, .int .i64 0] := by
       refine ⟨?_, ?_, ?_, ?_, ?_⟩ <;> refine Blk.keep hb ?_ <;> (repeat' (first | (with_reducible first | assumption | apply Blk.set | (refine Blk.new ?_; focus (first | rfl | (simp; done))) | refine Blk.alloc ?_ _ | refine Blk.other ?_ ?_ _) | exact eqL rfl | (refine neB ?_; omega)))
     have ca := Ba.cell
     have fa := Ba.free
     have la_W5 := Ba.lt
     have co := Bo.cell
     have fo := Bo.free
     have lo_W5 := Bo.lt
     have cw := Bw.cell
     have fw := Bw.free
     have lw_W5 := Bw.lt
     have cp := Bp.cell
     have fp := Bp.free
     have lp_W5 := Bp.lt
     have cu := Bu.cell
     have fu := Bu.free
     have lu_W5 := Bu.lt
     have kaW5 : Acc w W5 := by
       refine Acc.call ?_ hb
       (repeat' (first | (with_reducible first | assumption | exact Acc.refl _ | refine Acc.alloc ?_ _ | refine Acc.setCell ?_ ?_ _) | (refine leB ?_; omega)))
     clear hb
     go_wp2_with fail
     skip
     refine (gave6_some HB.out (implJCross_any (-y1) y2 y3 x1 (-x2) x3 hny1 hy2 hy3 hx1 hnx2 hx3 _ (HL.out _ (by repeat' (first | (with_reducible first | assumption | exact Acc.refl _ | refine Acc.alloc ?_ _ | refine Acc.setCell ?_ ?_ _) | (refine leB ?_; omega)))))).mono ?_
     rintro e W6 ⟨rfl, hb⟩
     obtain ⟨Ba, Bo, Bw, Bp, Bu, Bv⟩ : Blk W6 (W0.heap.size) [.int .i64 x1, .int .i64 x2, .int .i64 x3, .int .i64 y1, .int .i64 y2, .int .i64 y3] ∧ Blk W6 (W1.heap.size) [.int .i64 (-y1), .int .i64 y2, .int .i64 y3, .int .i64 x1, .int .i64 (-x2), .int .i64 x3] ∧ Blk W6 (W2.heap.size) [.int .i64 (-y1), .int .i64 y2, .int .i64 y3, .int .i64 x1, .int .i64 (-x2), .int .i64 x3] ∧ Blk W6 (W3.heap.size) [.int .i64 0, .int .i64 0, .int .i64 1] ∧ Blk W6 (W4.heap.size) [.int .i64 0, .int .i64 0, .int .i64 0] ∧ Blk W6 (W5.heap.size) [.int .i64 v1, .int .i64 v2, .int .i64 v3] := by
       refine ⟨?_, ?_, ?_, ?_, ?_, ?_⟩ <;> refine Blk.keep hb ?_ <;> (repeat' (first | (with_reducible first | assumption | apply Blk.set | (refine Blk.new ?_; focus (first | rfl | (simp; done))) | refine Blk.alloc ?_ _ | refine Blk.other ?_ ?_ _) | exact eqL rfl | (refine neB ?_; omega)))
     have ca := Ba.cell
     have fa := Ba.free
     have la_W6 := Ba.lt
     have co := Bo.cell
     have fo := Bo.free
     have lo_W6 := Bo.lt
     have cw := Bw.cell
     have fw := Bw.free
     have lw_W6 := Bw.lt
     have cp := Bp.cell
     have fp := Bp.free
     have lp_W6 := Bp.lt
     have cu := Bu.cell
     have fu := Bu.free
     have lu_W6 := Bu.lt
     have cv := Bv.cell
     have fv := Bv.free
     have lv_W6 := Bv.lt
     have kaW6 : Acc w W6 := by
       refine Acc.call ?_ hb
       (repeat' (first | (with_reducible first | assumption | exact Acc.refl _ | refine Acc.alloc ?_ _ | refine Acc.setCell ?_ ?_ _) | (refine leB ?_; omega)))
     clear hb
     go_wp2_with fail
     refine (gave6_some HM.out (implJTimes_any x1 x2 x3 y1 y2 y3 (-1) 0 1 hx1 hx2 hx3 hy1 hy2 hy3 i64_m1 i64_0 i64_1 _ (HL.out _ (by repeat' (first | (with_reducible first | assumption | exact Acc.refl _ | refine Acc.alloc ?_ _ | refine Acc.setCell ?_ ?_ _) | (refine leB ?_; omega)))))).mono ?_
     rintro e W7 ⟨rfl, hb⟩
     obtain ⟨Ba, Bo, Bw, Bp, Bu, Bv, Bx⟩ : Blk W7 (W0.heap.size) [.int .i64 x1, .int .i64 x2, .int .i64 x3, .int .i64 y1, .int .i64 y2, .int .i64 y3] ∧ Blk W7 (W1.heap.size) [.int .i64 (-y1), .int .i64 y2, .int .i64 y3, .int .i64 x1, .int .i64 (-x2), .int .i64 x3] ∧ Blk W7 (W2.heap.size) [.int .i64 (-y1), .int .i64 y2, .int .i64 y3, .int .i64 x1, .int .i64 (-x2), .int .i64 x3] ∧ Blk W7 (W3.heap.size) [.int .i64 0, .int .i64 0, .int .i64 1] ∧ Blk W7 (W4.heap.size) [.int .i64 0, .int .i64 0, .int .i64 0] ∧ Blk W7 (W5.heap.size) [.int .i64 v1, .int .i64 v2, .int .i64 v3] ∧ Blk W7 (W6.heap.size) [.int .i64 (-x1), .int .i64 (-x2), .int .i64 x3, .int .i64 (-y1), .int .i64 (-y2), .int .i64 y3] := by
       refine ⟨?_, ?_, ?_, ?_, ?_, ?_, ?_⟩ <;> refine Blk.keep hb ?_ <;> (repeat' (first | (with_reducible first | assumption | apply Blk.set | (refine Blk.new ?_; focus (first | rfl | (simp; done))) | refine Blk.alloc ?_ _ | refine Blk.other ?_ ?_ _) | exact eqL rfl | (refine neB ?_; omega)))
     have ca := Ba.cell
     have fa := Ba.free
     have la_W7 := Ba.lt
     have co := Bo.cell
     have fo := Bo.free
     have lo_W7 := Bo.lt
     have cw := Bw.cell
     have fw := Bw.free
     have lw_W7 := Bw.lt
     have cp := Bp.cell
     have fp := Bp.free
     have lp_W7 := Bp.lt
     have cu := Bu.cell
     have fu := Bu.free
     have lu_W7 := Bu.lt
     have cv := Bv.cell
     have fv := Bv.free
     have lv_W7 := Bv.lt
     have cx := Bx.cell
     have fx := Bx.free
     have lx_W7 := Bx.lt
     have kaW7 : Acc w W7 := by
       refine Acc.call ?_ hb
       (repeat' (first | (with_reducible first | assumption | exact Acc.refl _ | refine Acc.alloc ?_ _ | refine Acc.setCell ?_ ?_ _) | (refine leB ?_; omega)))
     clear hb
     go_wp2_with fail
     all_goals
       go_ret
       refine ⟨by first | rfl | (simp [*]; done) | (simp [go_sem, *]; done), ?_⟩
       show Acc w _
       (repeat' (first | (with_reducible first | assumption | exact Acc.refl _ | refine Acc.alloc ?_ _ | refine Acc.setCell ?_ ?_ _) | (refine leB ?_; omega)))
    | some v =>
     obtain ⟨u1, u2, u3⟩ := v
     obtain ⟨hu1, hu2, hu3⟩ := okF_i64 (jpow_ok ht)
     have HU := Lib.hid ht
     clear ht
     refine (gave_some HU.out (implJPower_any x1 x2 x3 y1 y2 y3 hx1 hx2 hx3 hy1 hy2 hy3 _ (HL.out _ (by repeat' (first | (with_reducible first | assumption | exact Acc.refl _ | refine Acc.alloc ?_ _ | refine Acc.setCell ?_ ?_ _) | (refine leB ?_; omega)))))).mono ?_
     rintro e W4 ⟨rfl, hb⟩
     obtain ⟨Ba, Bo, Bw, Bp⟩ : Blk W4 (W0.heap.size) [.int .i64 x1, .int .i64 x2, .int .i64 x3, .int .i64 y1, .int .i64 y2, .int .i64 y3] ∧ Blk W4 (W1.heap.size) [.int .i64 (-y1), .int .i64 y2, .int .i64 y3, .int .i64 x1, .int .i64 (-x2), .int .i64 x3] ∧ Blk W4 (W2.heap.size) [.int .i64 (-y1), .int .i64 y2, .int .i64 y3, .int .i64 x1, .int .i64 (-x2), .int .i64 x3] ∧ Blk W4 (W3.heap.size) [.int .i64 0, .int .i64 0, .int .i64 1] := by
       refine ⟨?_, ?_, ?_, ?_⟩ <;> refine Blk.keep hb ?_ <;> (repeat' (first | (with_reducible first | assumption | apply Blk.set | (refine Blk.new ?_; focus (first | rfl | (simp; done))) | refine Blk.alloc ?_ _ | refine Blk.other ?_ ?_ _) | exact eqL rfl | (refine neB ?_; omega)))
     have ca := Ba.cell
     have fa := Ba.free
     have la_W4 := Ba.lt
     have co := Bo.cell
     have fo := Bo.free
     have lo_W4 := Bo.lt
     have cw := Bw.cell
     have fw := Bw.free
     have lw_W4 := Bw.lt
     have cp := Bp.cell
     have fp := Bp.free
     have lp_W4 := Bp.lt
     have kaW4 : Acc w W4 := by
       refine Acc.call ?_ hb
       (repeat' (first | (with_reducible first | assumption | exact Acc.refl _ | refine Acc.alloc ?_ _ | refine Acc.setCell ?_ ?_ _) | (refine leB ?_; omega)))
     clear hb
     go_wp2_with fail
     cases ht : jpowF (-y1) y2 y3 x1 (-x2) x3 with
     | none =>
      have HV := Lib.hid ht
      clear ht
      refine (gave_none HV.out (implJPower_any (-y1) y2 y3 x1 (-x2) x3 hny1 hy2 hy3 hx1 hnx2 hx3 _ (HL.out _ (by repeat' (first | (with_reducible first | assumption | exact Acc.refl _ | refine Acc.alloc ?_ _ | refine Acc.setCell ?_ ?_ _) | (refine leB ?_; omega)))))).mono ?_
      rintro e W5 ⟨rfl, hb⟩
      obtain ⟨Ba, Bo, Bw, Bp, Bu⟩ : Blk W5 (W0.heap.size) [.int .i64 x1, .int .i64 x2, .int .i64 x3, .int .i64 y1, .int .i64 y2, .int .i64 y3] ∧ Blk W5 (W1.heap.size) [.int .i64 (-y1), .int .i64 y2, .int .i64 y3, .int .i64 x1, .int .i64 (-x2), .int .i64 x3] ∧ Blk W5 (W2.heap.size) [.int .i64 (-y1), .int .i64 y2, .int .i64 y3, .int .i64 x1, .int .i64 (-x2), .int .i64 x3] ∧ Blk W5 (W3.heap.size) [.int .i64 0, .int .i64 0, .int .i64 1] ∧ Blk W5 (W4.heap.size) [.int .i64 u1, .int .i64 u2, .int .i64 u3] := by
        refine ⟨?_, ?_, ?_, ?_, ?_⟩ <;> refine Blk.keep hb ?_ <;> (repeat' (first | (with_reducible first | assumption | apply Blk.set | (refine Blk.new ?_; focus (first | rfl | (simp; done))) | refine Blk.alloc ?_ _ | refine Blk.other ?_ ?_ _) | exact eqL rfl | (refine neB ?_; omega)))
      have ca := Ba.cell
      have fa := Ba.free
      have la_W5 := Ba.lt
      have co := Bo.cell
      have fo := Bo.free
      have lo_W5 := Bo.lt
      have cw := Bw.cell
      have fw := Bw.free
      have lw_W5 := Bw.lt
      have cp := Bp.cell
      have fp := Bp.free
      have lp_W5 := Bp.lt
      have cu := Bu.cell
      have fu := Bu.free
      have lu_W5 := Bu.lt
      have kaW5 : Acc w W5 := by
        refine Acc.call ?_ hb
        (repeat' (first | (with_reducible first | assumption | exact Acc.refl _ | refine Acc.alloc ?_ _ | refine Acc.setCell ?_ ?_ _) | (refine leB ?_; omega)))
      clear hb
      go_wp2_with fail
      skip
      refine (gave6_some HB.out (implJCross_any (-y1) y2 y3 x1 (-x2) x3 hny1 hy2 hy3 hx1 hnx2 hx3 _ (HL.out _ (by repeat' (first | (with_reducible first | assumption | exact Acc.refl _ | refine Acc.alloc ?_ _ | refine Acc.setCell ?_ ?_ _) | (refine leB ?_; omega)))))).mono ?_
      rintro e W6 ⟨rfl, hb⟩
      obtain ⟨Ba, Bo, Bw, Bp, Bu, Bv⟩ : Blk W6 (W0.heap.size) [.int .i64 x1, .int .i64 x2, .int .i64 x3, .int .i64 y1, .int .i64 y2, .int .i64 y3] ∧ Blk W6 (W1.heap.size) [.int .i64 (-y1), .int .i64 y2, .int .i64 y3, .int .i64 x1, .int .i64 (-x2), .int .i64 x3] ∧ Blk W6 (W2.heap.size) [.int .i64 (-y1), .int .i64 y2, .int .i64 y3, .int .i64 x1, .int .i64 (-x2), .int .i64 x3] ∧ Blk W6 (W3.heap.size) [.int .i64 0, .int .i64 0, .int .i64 1] ∧ Blk W6 (W4.heap.size) [.int .i64 u1, .int .i64 u2, .int .i64 u3] ∧ Blk W6 (W5.heap.size) [.int .i64 0, .int .i64 0, .int .i64 0] := by
        refine ⟨?_, ?_, ?_, ?_, ?_, ?_⟩ <;> refine Blk.keep hb ?_ <;> (repeat' (first | (with_reducible first | assumption | apply Blk.set | (refine Blk.new ?_; focus (first | rfl | (simp; done))) | refine Blk.alloc ?_ _ | refine Blk.other ?_ ?_ _) | exact eqL rfl | (refine neB ?_; omega)))
      have ca := Ba.cell
      have fa := Ba.free
      have la_W6 := Ba.lt
      have co := Bo.cell
      have fo := Bo.free
      have lo_W6 := Bo.lt
      have cw := Bw.cell
      have fw := Bw.free
      have lw_W6 := Bw.lt
      have cp := Bp.cell
      have fp := Bp.free
      have lp_W6 := Bp.lt
      have cu := Bu.cell
      have fu := Bu.free
      have lu_W6 := Bu.lt
      have cv := Bv.cell
      have fv := Bv.free
      have lv_W6 := Bv.lt
      have kaW6 : Acc w W6 := by
        refine Acc.call ?_ hb
        (repeat' (first | (with_reducible first | assumption | exact Acc.refl _ | refine Acc.alloc ?_ _ | refine Acc.setCell ?_ ?_ _) | (refine leB ?_; omega)))
      clear hb
      go_wp2_with fail
      refine (gave6_some HM.out (implJTimes_any x1 x2 x3 y1 y2 y3 (-1) 0 1 hx1 hx2 hx3 hy1 hy2 hy3 i64_m1 i64_0 i64_1 _ (HL.out _ (by repeat' (first | (with_reducible first | assumption | exact Acc.refl _ | refine Acc.alloc ?_ _ | refine Acc.setCell ?_ ?_ _) | (refine leB ?_; omega)))))).mono ?_
      rintro e W7 ⟨rfl, hb⟩
      obtain ⟨Ba, Bo, Bw, Bp, Bu, Bv, Bx⟩ : Blk W7 (W0.heap.size) [.int .i64 x1, .int .i64 x2, .int .i64 x3, .int .i64 y1, .int .i64 y2, .int .i64 y3] ∧ Blk W7 (W1.heap.size) [.int .i64 (-y1), .int .i64 y2, .int .i64 y3, .int .i64 x1, .int .i64 (-x2), .int .i64 x3] ∧ Blk W7 (W2.heap.size) [.int .i64 (-y1), .int .i64 y2, .int .i64 y3, .int .i64 x1, .int .i64 (-x2), .int .i64 x3] ∧ Blk W7 (W3.heap.size) [.int .i64 0, .int .i64 0, .int .i64 1] ∧ Blk W7 (W4.heap.size) [.int .i64 u1, .int .i64 u2, .int .i64 u3] ∧ Blk W7 (W5.heap.size) [.int .i64 0, .int .i64 0, .int .i64 0] ∧ Blk W7 (W6.heap.size) [.int .i64 (-x1), .int .i64 (-x2), .int .i64 x3, .int .i64 (-y1), .int .i64 (-y2), .int .i64 y3] := by
        refine ⟨?_, ?_, ?_, ?_, ?_, ?_, ?_⟩ <;> refine Blk.keep hb ?_ <;> (repeat' (first | (with_reducible first | assumption | apply Blk.set | (refine Blk.new ?_; focus (first | rfl | (simp; done))) | refine Blk.alloc ?_ _ | refine Blk.other ?_ ?_ _) | exact eqL rfl | (refine neB ?_; omega)))
      have ca := Ba.cell
      have fa := Ba.free
      have la_W7 := Ba.lt
      have co := Bo.cell
      have fo := Bo.free
      have lo_W7 := Bo.lt
      have cw := Bw.cell
      have fw := Bw.free
      have lw_W7 := Bw.lt
      have cp := Bp.cell
      have fp := Bp.free
      have lp_W7 := Bp.lt
      have cu := Bu.cell
      have fu := Bu.free
      have lu_W7 := Bu.lt
      have cv := Bv.cell
      have fv := Bv.free
      have lv_W7 := Bv.lt
      have cx := Bx.cell
      have fx := Bx.free
      have lx_W7 := Bx.lt
      have kaW7 : Acc w W7 := by
        refine Acc.call ?_ hb
        (repeat' (first | (with_reducible first | assumption | exact Acc.refl _ | refine Acc.alloc ?_ _ | refine Acc.setCell ?_ ?_ _) | (refine leB ?_; omega)))
      clear hb
      go_wp2_with fail
      all_goals
        go_ret
        refine ⟨by first | rfl | (simp [*]; done) | (simp [go_sem, *]; done), ?_⟩
        show Acc w _
        (repeat' (first | (with_reducible first | assumption | exact Acc.refl _ | refine Acc.alloc ?_ _ | refine Acc.setCell ?_ ?_ _) | (refine leB ?_; omega)))
     | some v =>
      obtain ⟨v1, v2, v3⟩ := v
      obtain ⟨hv1, hv2, hv3⟩ := okF_i64 (jpow_ok ht)
      have HV := Lib.hid ht
      clear ht
      refine (gave_some HV.out (implJPower_any (-y1) y2 y3 x1 (-x2) x3 hny1 hy2 hy3 hx1 hnx2 hx3 _ (HL.out _ (by repeat' (first | (with_reducible first | assumption | exact Acc.refl _ | refine Acc.alloc ?_ _ | refine Acc.setCell ?_ ?_ _) | (refine leB ?_; omega)))))).mono ?_
      rintro e W5 ⟨rfl, hb⟩
      obtain ⟨Ba, Bo, Bw, Bp, Bu⟩ : Blk W5 (W0.heap.size) [.int .i64 x1, .int .i64 x2, .int .i64 x3, .int .i64 y1, .int .i64 y2, .int .i64 y3] ∧ Blk W5 (W1.heap.size) [.int .i64 (-y1), .int .i64 y2, .int .i64 y3, .int .i64 x1, .int .i64 (-x2), .int .i64 x3] ∧ Blk W5 (W2.heap.size) [.int .i64 (-y1), .int .i64 y2, .int .i64 y3, .int .i64 x1, .int .i64 (-x2), .int .i64 x3] ∧ Blk W5 (W3.heap.size) [.int .i64 0, .int .i64 0, .int .i64 1] ∧ Blk W5 (W4.heap.size) [.int .i64 u1, .int .i64 u2, .int .i64 u3] := by
        refine ⟨?_, ?_, ?_, ?_, ?_⟩ <;> refine Blk.keep hb ?_ <;> (repeat' (first | (with_reducible first | assumption | apply Blk.set | (refine Blk.new ?_; focus (first | rfl | (simp; done))) | refine Blk.alloc ?_ _ | refine Blk.other ?_ ?_ _) | exact eqL rfl | (refine neB ?_; omega)))
      have ca := Ba.cell
      have fa := Ba.free
      have la_W5 := Ba.lt
      have co := Bo.cell
      have fo := Bo.free
      have lo_W5 := Bo.lt
      have cw := Bw.cell
      have fw := Bw.free
      have lw_W5 := Bw.lt
      have cp := Bp.cell
      have fp := Bp.free
      have lp_W5 := Bp.lt
      have cu := Bu.cell
      have fu := Bu.free
      have lu_W5 := Bu.lt
      have kaW5 : Acc w W5 := by
        refine Acc.call ?_ hb
        (repeat' (first | (with_reducible first | assumption | exact Acc.refl _ | refine Acc.alloc ?_ _ | refine Acc.setCell ?_ ?_ _) | (refine leB ?_; omega)))
      clear hb
      go_wp2_with fail
      skip
      refine (gave6_some HB.out (implJCross_any (-y1) y2 y3 x1 (-x2) x3 hny1 hy2 hy3 hx1 hnx2 hx3 _ (HL.out _ (by repeat' (first | (with_reducible first | assumption | exact Acc.refl _ | refine Acc.alloc ?_ _ | refine Acc.setCell ?_ ?_ _) | (refine leB ?_; omega)))))).mono ?_
      rintro e W6 ⟨rfl, hb⟩
      obtain ⟨Ba, Bo, Bw, Bp, Bu, Bv⟩ : Blk W6 (W0.heap.size) [.int .i64 x1, .int .i64 x2, .int .i64 x3, .int .i64 y1, .int .i64 y2, .int .i64 y3] ∧ Blk W6 (W1.heap.size) [.int .i64 (-y1), .int .i64 y2, .int .i64 y3, .int .i64 x1, .int .i64 (-x2), .int .i64 x3] ∧ Blk W6 (W2.heap.size) [.int .i64 (-y1), .int .i64 y2, .int .i64 y3, .int .i64 x1, .int .i64 (-x2), .int .i64 x3] ∧ Blk W6 (W3.heap.size) [.int .i64 0, .int .i64 0, .int .i64 1] ∧ Blk W6 (W4.heap.size) [.int .i64 u1, .int .i64 u2, .int .i64 u3] ∧ Blk W6 (W5.heap.size) [.int .i64 v1, .int .i64 v2, .int .i64 v3] := by
        refine ⟨?_, ?_, ?_, ?_, ?_, ?_⟩ <;> refine Blk.keep hb ?_ <;> (repeat' (first | (with_reducible first | assumption | apply Blk.set | (refine Blk.new ?_; focus (first | rfl | (simp; done))) | refine Blk.alloc ?_ _ | refine Blk.other ?_ ?_ _) | exact eqL rfl | (refine neB ?_; omega)))
      have ca := Ba.cell
      have fa := Ba.free
      have la_W6 := Ba.lt
      have co := Bo.cell
      have fo := Bo.free
      have lo_W6 := Bo.lt
      have cw := Bw.cell
      have fw := Bw.free
      have lw_W6 := Bw.lt
      have cp := Bp.cell
      have fp := Bp.free
      have lp_W6 := Bp.lt
      have cu := Bu.cell
      have fu := Bu.free
      have lu_W6 := Bu.lt
      have cv := Bv.cell
      have fv := Bv.free
      have lv_W6 := Bv.lt
      have kaW6 : Acc w W6 := by
        refine Acc.call ?_ hb
        (repeat' (first | (with_reducible first | assumption | exact Acc.refl _ | refine Acc.alloc ?_ _ | refine Acc.setCell ?_ ?_ _) | (refine leB ?_; omega)))
      clear hb
      go_wp2_with fail
      refine (gave6_some HM.out (implJTimes_any x1 x2 x3 y1 y2 y3 (-1) 0 1 hx1 hx2 hx3 hy1 hy2 hy3 i64_m1 i64_0 i64_1 _ (HL.out _ (by repeat' (first | (with_reducible first | assumption | exact Acc.refl _ | refine Acc.alloc ?_ _ | refine Acc.setCell ?_ ?_ _) | (refine leB ?_; omega)))))).mono ?_
      rintro e W7 ⟨rfl, hb⟩
      obtain ⟨Ba, Bo, Bw, Bp, Bu, Bv, Bx⟩ : Blk W7 (W0.heap.size) [.int .i64 x1, .int .i64 x2, .int .i64 x3, .int .i64 y1, .int .i64 y2, .int .i64 y3] ∧ Blk W7 (W1.heap.size) [.int .i64 (-y1), .int .i64 y2, .int .i64 y3, .int .i64 x1, .int .i64 (-x2), .int .i64 x3] ∧ Blk W7 (W2.heap.size) [.int .i64 (-y1), .int .i64 y2, .int .i64 y3, .int .i64 x1, .int .i64 (-x2), .int .i64 x3] ∧ Blk W7 (W3.heap.size) [.int .i64 0, .int .i64 0, .int .i64 1] ∧ Blk W7 (W4.heap.size) [.int .i64 u1, .int .i64 u2, .int .i64 u3] ∧ Blk W7 (W5.heap.size) [.int .i64 v1, .int .i64 v2, .int .i64 v3] ∧ Blk W7 (W6.heap.size) [.int .i64 (-x1), .int .i64 (-x2), .int .i64 x3, .int .i64 (-y1), .int .i64 (-y2), .int .i64 y3] := by
        refine ⟨?_, ?_, ?_, ?_, ?_, ?_, ?_⟩ <;> refine Blk.keep hb ?_ <;> (repeat' (first | (with_reducible first | assumption | apply Blk.set | (refine Blk.new ?_; focus (first | rfl | (simp; done))) | refine Blk.alloc ?_ _ | refine Blk.other ?_ ?_ _) | exact eqL rfl | (refine neB ?_; omega)))
      have ca := Ba.cell
      have fa := Ba.free
      have la_W7 := Ba.lt
      have co := Bo.cell
      have fo := Bo.free
      have lo_W7 := Bo.lt
      have cw := Bw.cell
      have fw := Bw.free
      have lw_W7 := Bw.lt
      have cp := Bp.cell
      have fp := Bp.free
      have lp_W7 := Bp.lt
      have cu := Bu.cell
      have fu := Bu.free
      have lu_W7 := Bu.lt
      have cv := Bv.cell
      have fv := Bv.free
      have lv_W7 := Bv.lt
      have cx := Bx.cell
      have fx := Bx.free
      have lx_W7 := Bx.lt
      have kaW7 : Acc w W7 := by
        refine Acc.call ?_ hb
        (repeat' (first | (with_reducible first | assumption | exact Acc.refl _ | refine Acc.alloc ?_ _ | refine Acc.setCell ?_ ?_ _) | (refine leB ?_; omega)))
      clear hb
      go_wp2_with fail
      all_goals obtain ⟨⟩ := cross_power HU.out HV.out
      all_goals try exact absurd rfl (by assumption)
      all_goals
        go_ret
        refine ⟨by first | rfl | (simp [*]; done) | (simp [go_sem, *]; done), ?_⟩
        show Acc w _
        (repeat' (first | (with_reducible first | assumption | exact Acc.refl _ | refine Acc.alloc ?_ _ | refine Acc.setCell ?_ ?_ _) | (refine leB ?_; omega)))
end Go.Proofs.YtbihlkienhbapabDoor
