/-
  The law of powers of vectors.
-/
import Derived.Test.YtbihlkienhbapabDoorDrawJones
import Derived.Test.YtbihlkienhbapabDoorJonesMath
import Derived.Test.YtbihlkienhbapabDoorGave
import Derived.Test.YtbihlkienhbapabDoorGave6
import Derived.Test.YtbihlkienhbapabDoorImplJ1
import Derived.Test.YtbihlkienhbapabDoorImplJ4
namespace Go.Proofs.YtbihlkienhbapabDoor
open Go.ChangeShapes Go.WideShapes Go.ChangeAt Go.RowKit
set_option linter.unusedVariables false

set_option maxRecDepth 100000 in
set_option maxHeartbeats 16000000 in
theorem fnJonesPower_law (w : World) (hl : Laid w) (s : Option Addr) (len cap : Nat) (h : Code8 w s len cap) :
    Calls Tryd.prog 4 #[.slice s len cap] w (Fine w) := by
  have hm := h.2.1
  have hl' := h.1
  unfold maxLen at hm
  have HL := Lib.hid fun W (k : Acc w W) => hl.acc k
  clear hl
  by_cases hlen : 1048576 < len
  · clear h
    have hlen' : (1048576 : Int) < (len : Int) := by omega
    go_enter Tryd.func4, Tryd.ntmps4
    go_wp2_with fail
    go_ret
    exact ⟨rfl, Below.refl _ _⟩
  have hlen' : ¬ (1048576 : Int) < (len : Int) := by omega
  go_enter Tryd.func4, Tryd.ntmps4
  go_wp2_with fail
  refine (drawJonesPower_any s len cap w h).mono ?_
  rintro e W0 ⟨x1, x2, x3, y1, y2, y3, rfl, hx1, hx2, hx3, hy1, hy2, hy3, hb⟩
  have kaW0 : Acc w W0 := hb
  clear hb h
  go_wp2_with fail
  cases ho : jpowF x1 x2 x3 y1 y2 y3 with
  | none =>
   have HO := Lib.hid ho
   clear ho
   refine (gave_none HO.out (implJPower_any x1 x2 x3 y1 y2 y3 hx1 hx2 hx3 hy1 hy2 hy3 _ (HL.out _ (by repeat' (first | (with_reducible first | assumption | exact Acc.refl _ | refine Acc.alloc ?_ _ | refine Acc.setCell ?_ ?_ _) | (refine leB ?_; omega)))))).mono ?_
   rintro e W1 ⟨rfl, hb⟩
   have Ba : Blk W1 (W0.heap.size) [.int .i64 x1, .int .i64 x2, .int .i64 x3, .int .i64 y1, .int .i64 y2, .int .i64 y3] := Blk.keep hb (by repeat' (first | (with_reducible first | assumption | apply Blk.set | (refine Blk.new ?_; focus (first | rfl | (simp; done))) | refine Blk.alloc ?_ _ | refine Blk.other ?_ ?_ _) | exact eqL rfl | (refine neB ?_; omega)))
   have ca := Ba.cell
   have fa := Ba.free
   have la_W1 := Ba.lt
   have kaW1 : Acc w W1 := by
     refine Acc.call ?_ hb
     (repeat' (first | (with_reducible first | assumption | exact Acc.refl _ | refine Acc.alloc ?_ _ | refine Acc.setCell ?_ ?_ _) | (refine leB ?_; omega)))
   clear hb
   go_wp2_with fail
   refine (gave_none HO.out (specJPower_any x1 x2 x3 y1 y2 y3 _)).mono ?_
   rintro e W2 ⟨rfl, hb⟩
   obtain ⟨Ba, Bo⟩ : Blk W2 (W0.heap.size) [.int .i64 x1, .int .i64 x2, .int .i64 x3, .int .i64 y1, .int .i64 y2, .int .i64 y3] ∧ Blk W2 (W1.heap.size) [.int .i64 0, .int .i64 0, .int .i64 0] := by
     refine ⟨?_, ?_⟩ <;> refine Blk.keep hb ?_ <;> (repeat' (first | (with_reducible first | assumption | apply Blk.set | (refine Blk.new ?_; focus (first | rfl | (simp; done))) | refine Blk.alloc ?_ _ | refine Blk.other ?_ ?_ _) | exact eqL rfl | (refine neB ?_; omega)))
   have ca := Ba.cell
   have fa := Ba.free
   have la_W2 := Ba.lt
   have co := Bo.cell
   have fo := Bo.free
   have lo_W2 := Bo.lt
   have kaW2 : Acc w W2 := by
     refine Acc.call ?_ hb
     (repeat' (first | (with_reducible first | assumption | exact Acc.refl _ | refine Acc.alloc ?_ _ | refine Acc.setCell ?_ ?_ _) | (refine leB ?_; omega)))
   clear hb
   go_wp2_with fail
   go_ret
   refine ⟨rfl, ?_⟩
   show Acc w _
   (repeat' (first | (with_reducible first | assumption | exact Acc.refl _ | refine Acc.alloc ?_ _ | refine Acc.setCell ?_ ?_ _) | (refine leB ?_; omega)))
  | some v =>
   obtain ⟨p, q, r⟩ := v
   obtain ⟨hi, rfl, hp⟩ := power_inner ho
   have HO := Lib.hid ho
   have HI := Lib.hid hi
   clear ho hi
   refine (gave_some HO.out (implJPower_any x1 x2 x3 y1 y2 y3 hx1 hx2 hx3 hy1 hy2 hy3 _ (HL.out _ (by repeat' (first | (with_reducible first | assumption | exact Acc.refl _ | refine Acc.alloc ?_ _ | refine Acc.setCell ?_ ?_ _) | (refine leB ?_; omega)))))).mono ?_
   rintro e W1 ⟨rfl, hb⟩
   have Ba : Blk W1 (W0.heap.size) [.int .i64 x1, .int .i64 x2, .int .i64 x3, .int .i64 y1, .int .i64 y2, .int .i64 y3] := Blk.keep hb (by repeat' (first | (with_reducible first | assumption | apply Blk.set | (refine Blk.new ?_; focus (first | rfl | (simp; done))) | refine Blk.alloc ?_ _ | refine Blk.other ?_ ?_ _) | exact eqL rfl | (refine neB ?_; omega)))
   have ca := Ba.cell
   have fa := Ba.free
   have la_W1 := Ba.lt
   have kaW1 : Acc w W1 := by
     refine Acc.call ?_ hb
     (repeat' (first | (with_reducible first | assumption | exact Acc.refl _ | refine Acc.alloc ?_ _ | refine Acc.setCell ?_ ?_ _) | (refine leB ?_; omega)))
   clear hb
   go_wp2_with fail
   refine (gave_some HO.out (specJPower_any x1 x2 x3 y1 y2 y3 _)).mono ?_
   rintro e W2 ⟨rfl, hb⟩
   obtain ⟨Ba, Bo⟩ : Blk W2 (W0.heap.size) [.int .i64 x1, .int .i64 x2, .int .i64 x3, .int .i64 y1, .int .i64 y2, .int .i64 y3] ∧ Blk W2 (W1.heap.size) [.int .i64 p, .int .i64 0, .int .i64 r] := by
     refine ⟨?_, ?_⟩ <;> refine Blk.keep hb ?_ <;> (repeat' (first | (with_reducible first | assumption | apply Blk.set | (refine Blk.new ?_; focus (first | rfl | (simp; done))) | refine Blk.alloc ?_ _ | refine Blk.other ?_ ?_ _) | exact eqL rfl | (refine neB ?_; omega)))
   have ca := Ba.cell
   have fa := Ba.free
   have la_W2 := Ba.lt
   have co := Bo.cell
   have fo := Bo.free
   have lo_W2 := Bo.lt
   have kaW2 : Acc w W2 := by
     refine Acc.call ?_ hb
     (repeat' (first | (with_reducible first | assumption | exact Acc.refl _ | refine Acc.alloc ?_ _ | refine Acc.setCell ?_ ?_ _) | (refine leB ?_; omega)))
   clear hb
   go_wp2_with fail
   refine (gave_some HI.out (implJInner_any x1 x2 x3 y1 y2 y3 x1 x2 x3 y1 y2 y3 hx1 hx2 hx3 hy1 hy2 hy3 hx1 hx2 hx3 hy1 hy2 hy3 _ (HL.out _ (by repeat' (first | (with_reducible first | assumption | exact Acc.refl _ | refine Acc.alloc ?_ _ | refine Acc.setCell ?_ ?_ _) | (refine leB ?_; omega)))))).mono ?_
   rintro e W3 ⟨rfl, hb⟩
   obtain ⟨Ba, Bo, Bw⟩ : Blk W3 (W0.heap.size) [.int .i64 x1, .int .i64 x2, .int .i64 x3, .int .i64 y1, .int .i64 y2, .int .i64 y3] ∧ Blk W3 (W1.heap.size) [.int .i64 p, .int .i64 0, .int .i64 r] ∧ Blk W3 (W2.heap.size) [.int .i64 p, .int .i64 0, .int .i64 r] := by
     refine ⟨?_, ?_, ?_⟩ <;> refine Blk.keep hb ?_ <;> (repeat' (first | (with_reducible first | assumption | apply Blk.set | (refine Blk.new ?_; focus (first | rfl | (simp; done))) | refine Blk.alloc ?_ _ | refine Blk.other ?_ ?_ _) | exact eqL rfl | (refine neB ?_; omega)))
   have ca := Ba.cell
   have fa := Ba.free
   have la_W3 := Ba.lt
   have co := Bo.cell
   have fo := Bo.free
   have lo_W3 := Bo.lt
   have cw := Bw.cell
   have fw := Bw.free
   have lw_W3 := Bw.lt
   have kaW3 : Acc w W3 := by
     refine Acc.call ?_ hb
     (repeat' (first | (with_reducible first | assumption | exact Acc.refl _ | refine Acc.alloc ?_ _ | refine Acc.setCell ?_ ?_ _) | (refine leB ?_; omega)))
   clear hb
   go_wp2_with fail
   go_ret
   refine ⟨rfl, ?_⟩
   show Acc w _
   (repeat' (first | (with_reducible first | assumption | exact Acc.refl _ | refine Acc.alloc ?_ _ | refine Acc.setCell ?_ ?_ _) | (refine leB ?_; omega)))
end Go.Proofs.YtbihlkienhbapabDoor
