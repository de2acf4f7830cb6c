/-
  The law of alike vectors.
-/
import Derived.Test.YtedigdakgjaedabDoorDrawJones2
import Derived.Test.YtedigdakgjaedabDoorStokesMath5
import Derived.Test.YtedigdakgjaedabDoorBImplF
import Derived.Test.YtedigdakgjaedabDoorGave6
import Derived.Test.YtedigdakgjaedabDoorGave12
import Derived.Test.YtedigdakgjaedabDoorImplE2
import Derived.Test.YtedigdakgjaedabDoorImplE6
import Derived.Test.YtedigdakgjaedabDoorImplJ5
import Derived.Test.YtedigdakgjaedabDoorBSpecV
import Derived.Test.YtedigdakgjaedabDoorSpecS3
namespace Go.Proofs.YtedigdakgjaedabDoor
open Go.ChangeShapes Go.WideShapes Go.ChangeAt Go.RowKit
set_option linter.unusedVariables false

set_option maxRecDepth 100000 in
set_option maxHeartbeats 16000000 in
theorem fnJonesAlike_law (w : World) (hl : Laid w) (s : Option Addr) (len cap : Nat) (h : Code8 w s len cap) :
    Calls Tryd.prog 3 #[.slice s len cap] w (Fine w) := by
  have hm := h.2.1
  have hl' := h.1
  unfold maxLen at hm
  have HL := Lib.hid fun W (k : Acc w W) => hl.acc k
  clear hl
  by_cases hlen : 1048576 < len
  · clear h
    have hlen' : (1048576 : Int) < (len : Int) := by omega
    go_enter Tryd.func3, Tryd.ntmps3
    go_wp2_with fail
    go_ret
    exact ⟨rfl, Below.refl _ _⟩
  have hlen' : ¬ (1048576 : Int) < (len : Int) := by omega
  go_enter Tryd.func3, Tryd.ntmps3
  go_wp2_with fail
  refine (drawJonesAlike_any s len cap w h).mono ?_
  rintro e W0 ⟨x1, x2, x3, y1, y2, y3, a1, a2, a3, b1, b2, b3, rfl, ⟨hx1, hx2, hx3, hy1, hy2, hy3⟩, ⟨ha1, ha2, ha3, hb1, hb2, hb3⟩, hb⟩
  have kaW0 : Acc w W0 := hb
  clear hb h
  go_wp2_with fail
  cases ho : alikeF x1 x2 x3 y1 y2 y3 a1 a2 a3 b1 b2 b3 with
  | false =>
    have HO := Lib.hid ho
    clear ho
    refine (valid_at HO.out (implJAlike_any x1 x2 x3 y1 y2 y3 a1 a2 a3 b1 b2 b3 hx1 hx2 hx3 hy1 hy2 hy3 ha1 ha2 ha3 hb1 hb2 hb3 _ (HL.out _ (by repeat' (first | (with_reducible first | assumption | exact Acc.refl _ | refine Acc.alloc ?_ _ | refine Acc.setCell ?_ ?_ _) | (refine leB ?_; omega)))))).mono ?_
    rintro e W1 ⟨rfl, hb⟩
    obtain ⟨Ba, Bb⟩ : Blk W1 (W0.heap.size) [.int .i64 x1, .int .i64 x2, .int .i64 x3, .int .i64 y1, .int .i64 y2, .int .i64 y3] ∧ Blk W1 (W0.heap.size + 1) [.int .i64 a1, .int .i64 a2, .int .i64 a3, .int .i64 b1, .int .i64 b2, .int .i64 b3] := by
      refine ⟨?_, ?_⟩ <;> refine Blk.keep hb ?_ <;> (repeat' (first | (with_reducible first | assumption | apply Blk.set | (refine Blk.new ?_; focus (first | rfl | (simp; done))) | refine Blk.alloc ?_ _ | refine Blk.other ?_ ?_ _) | exact eqL rfl | (refine neB ?_; omega)))
    have ca := Ba.cell
    have fa := Ba.free
    have la_W1 := Ba.lt
    have cb := Bb.cell
    have fb := Bb.free
    have lb_W1 := Bb.lt
    have kaW1 : Acc w W1 := by
      refine Acc.call ?_ hb
      (repeat' (first | (with_reducible first | assumption | exact Acc.refl _ | refine Acc.alloc ?_ _ | refine Acc.setCell ?_ ?_ _) | (refine leB ?_; omega)))
    clear hb
    go_wp2_with fail
    refine (valid_at HO.out (specJAlike_any x1 x2 x3 y1 y2 y3 a1 a2 a3 b1 b2 b3 _)).mono ?_
    rintro e W2 ⟨rfl, hb⟩
    obtain ⟨Ba, Bb⟩ : Blk W2 (W0.heap.size) [.int .i64 x1, .int .i64 x2, .int .i64 x3, .int .i64 y1, .int .i64 y2, .int .i64 y3] ∧ Blk W2 (W0.heap.size + 1) [.int .i64 a1, .int .i64 a2, .int .i64 a3, .int .i64 b1, .int .i64 b2, .int .i64 b3] := by
      refine ⟨?_, ?_⟩ <;> refine Blk.keep hb ?_ <;> (repeat' (first | (with_reducible first | assumption | apply Blk.set | (refine Blk.new ?_; focus (first | rfl | (simp; done))) | refine Blk.alloc ?_ _ | refine Blk.other ?_ ?_ _) | exact eqL rfl | (refine neB ?_; omega)))
    have ca := Ba.cell
    have fa := Ba.free
    have la_W2 := Ba.lt
    have cb := Bb.cell
    have fb := Bb.free
    have lb_W2 := Bb.lt
    have kaW2 : Acc w W2 := by
      refine Acc.call ?_ hb
      (repeat' (first | (with_reducible first | assumption | exact Acc.refl _ | refine Acc.alloc ?_ _ | refine Acc.setCell ?_ ?_ _) | (refine leB ?_; omega)))
    clear hb
    go_wp2_with fail
    go_ret
    refine ⟨rfl, ?_⟩
    show Acc w _
    (repeat' (first | (with_reducible first | assumption | exact Acc.refl _ | refine Acc.alloc ?_ _ | refine Acc.setCell ?_ ?_ _) | (refine leB ?_; omega)))
  | true =>
    have HO := Lib.hid ho
    have HS := Lib.hid (alike_swap ho)
    clear ho
    refine (valid_at HO.out (implJAlike_any x1 x2 x3 y1 y2 y3 a1 a2 a3 b1 b2 b3 hx1 hx2 hx3 hy1 hy2 hy3 ha1 ha2 ha3 hb1 hb2 hb3 _ (HL.out _ (by repeat' (first | (with_reducible first | assumption | exact Acc.refl _ | refine Acc.alloc ?_ _ | refine Acc.setCell ?_ ?_ _) | (refine leB ?_; omega)))))).mono ?_
    rintro e W1 ⟨rfl, hb⟩
    obtain ⟨Ba, Bb⟩ : Blk W1 (W0.heap.size) [.int .i64 x1, .int .i64 x2, .int .i64 x3, .int .i64 y1, .int .i64 y2, .int .i64 y3] ∧ Blk W1 (W0.heap.size + 1) [.int .i64 a1, .int .i64 a2, .int .i64 a3, .int .i64 b1, .int .i64 b2, .int .i64 b3] := by
      refine ⟨?_, ?_⟩ <;> refine Blk.keep hb ?_ <;> (repeat' (first | (with_reducible first | assumption | apply Blk.set | (refine Blk.new ?_; focus (first | rfl | (simp; done))) | refine Blk.alloc ?_ _ | refine Blk.other ?_ ?_ _) | exact eqL rfl | (refine neB ?_; omega)))
    have ca := Ba.cell
    have fa := Ba.free
    have la_W1 := Ba.lt
    have cb := Bb.cell
    have fb := Bb.free
    have lb_W1 := Bb.lt
    have kaW1 : Acc w W1 := by
      refine Acc.call ?_ hb
      (repeat' (first | (with_reducible first | assumption | exact Acc.refl _ | refine Acc.alloc ?_ _ | refine Acc.setCell ?_ ?_ _) | (refine leB ?_; omega)))
    clear hb
    go_wp2_with fail
    refine (valid_at HO.out (specJAlike_any x1 x2 x3 y1 y2 y3 a1 a2 a3 b1 b2 b3 _)).mono ?_
    rintro e W2 ⟨rfl, hb⟩
    obtain ⟨Ba, Bb⟩ : Blk W2 (W0.heap.size) [.int .i64 x1, .int .i64 x2, .int .i64 x3, .int .i64 y1, .int .i64 y2, .int .i64 y3] ∧ Blk W2 (W0.heap.size + 1) [.int .i64 a1, .int .i64 a2, .int .i64 a3, .int .i64 b1, .int .i64 b2, .int .i64 b3] := by
      refine ⟨?_, ?_⟩ <;> refine Blk.keep hb ?_ <;> (repeat' (first | (with_reducible first | assumption | apply Blk.set | (refine Blk.new ?_; focus (first | rfl | (simp; done))) | refine Blk.alloc ?_ _ | refine Blk.other ?_ ?_ _) | exact eqL rfl | (refine neB ?_; omega)))
    have ca := Ba.cell
    have fa := Ba.free
    have la_W2 := Ba.lt
    have cb := Bb.cell
    have fb := Bb.free
    have lb_W2 := Bb.lt
    have kaW2 : Acc w W2 := by
      refine Acc.call ?_ hb
      (repeat' (first | (with_reducible first | assumption | exact Acc.refl _ | refine Acc.alloc ?_ _ | refine Acc.setCell ?_ ?_ _) | (refine leB ?_; omega)))
    clear hb
    go_wp2_with fail
    cases hs : sofF x1 x2 x3 y1 y2 y3 with
    | none =>
     have HX := Lib.hid hs
     clear hs
     refine (gave12_none HX.out (implSOf_any x1 x2 x3 y1 y2 y3 hx1 hx2 hx3 hy1 hy2 hy3 _ (HL.out _ (by repeat' (first | (with_reducible first | assumption | exact Acc.refl _ | refine Acc.alloc ?_ _ | refine Acc.setCell ?_ ?_ _) | (refine leB ?_; omega)))))).mono ?_
     rintro e W3 ⟨rfl, hb⟩
     obtain ⟨Ba, Bb⟩ : Blk W3 (W0.heap.size) [.int .i64 x1, .int .i64 x2, .int .i64 x3, .int .i64 y1, .int .i64 y2, .int .i64 y3] ∧ Blk W3 (W0.heap.size + 1) [.int .i64 a1, .int .i64 a2, .int .i64 a3, .int .i64 b1, .int .i64 b2, .int .i64 b3] := by
       refine ⟨?_, ?_⟩ <;> refine Blk.keep hb ?_ <;> (repeat' (first | (with_reducible first | assumption | apply Blk.set | (refine Blk.new ?_; focus (first | rfl | (simp; done))) | refine Blk.alloc ?_ _ | refine Blk.other ?_ ?_ _) | exact eqL rfl | (refine neB ?_; omega)))
     have ca := Ba.cell
     have fa := Ba.free
     have la_W3 := Ba.lt
     have cb := Bb.cell
     have fb := Bb.free
     have lb_W3 := Bb.lt
     have kaW3 : Acc w W3 := by
       refine Acc.call ?_ hb
       (repeat' (first | (with_reducible first | assumption | exact Acc.refl _ | refine Acc.alloc ?_ _ | refine Acc.setCell ?_ ?_ _) | (refine leB ?_; omega)))
     clear hb
     go_wp2_with fail
     obtain ⟨w1, w2, w3, z1, z2, z3, m1, m2, m3, n1, n2, n3, ky, ⟨hw1, hw2, hw3, hz1, hz2, hz3, hm1, hm2, hm3, hn1, hn2, hn3⟩, hg⟩ := gave12_i64 (o := sofF a1 a2 a3 b1 b2 b3) (fun _ _ _ _ _ _ _ _ _ _ _ _ h => sof_ok h)
     have HG := Lib.hid hg
     clear hg
     refine (HG.out _ _ _ _ (implSOf_any a1 a2 a3 b1 b2 b3 ha1 ha2 ha3 hb1 hb2 hb3 _ (HL.out _ (by repeat' (first | (with_reducible first | assumption | exact Acc.refl _ | refine Acc.alloc ?_ _ | refine Acc.setCell ?_ ?_ _) | (refine leB ?_; omega)))))).mono ?_
     rintro e W4 ⟨rfl, hb⟩
     obtain ⟨Ba, Bb, Bx⟩ : Blk W4 (W0.heap.size) [.int .i64 x1, .int .i64 x2, .int .i64 x3, .int .i64 y1, .int .i64 y2, .int .i64 y3] ∧ Blk W4 (W0.heap.size + 1) [.int .i64 a1, .int .i64 a2, .int .i64 a3, .int .i64 b1, .int .i64 b2, .int .i64 b3] ∧ Blk W4 (W3.heap.size) [.int .i64 0, .int .i64 0, .int .i64 0, .int .i64 0, .int .i64 0, .int .i64 0, .int .i64 0, .int .i64 0, .int .i64 0, .int .i64 0, .int .i64 0, .int .i64 0] := by
       refine ⟨?_, ?_, ?_⟩ <;> refine Blk.keep hb ?_ <;> (repeat' (first | (with_reducible first | assumption | apply Blk.set | (refine Blk.new ?_; focus (first | rfl | (simp; done))) | refine Blk.alloc ?_ _ | refine Blk.other ?_ ?_ _) | exact eqL rfl | (refine neB ?_; omega)))
     have ca := Ba.cell
     have fa := Ba.free
     have la_W4 := Ba.lt
     have cb := Bb.cell
     have fb := Bb.free
     have lb_W4 := Bb.lt
     have cx := Bx.cell
     have fx := Bx.free
     have lx_W4 := Bx.lt
     have kaW4 : Acc w W4 := by
       refine Acc.call ?_ hb
       (repeat' (first | (with_reducible first | assumption | exact Acc.refl _ | refine Acc.alloc ?_ _ | refine Acc.setCell ?_ ?_ _) | (refine leB ?_; omega)))
     clear hb
     go_wp2_with fail
     refine wp_loop_rounds 1 ?_
     rw [rounds_succ]
     go_wp2_with fail
     refine (valid_at HS.out (implJAlike_any a1 a2 a3 b1 b2 b3 x1 x2 x3 y1 y2 y3 ha1 ha2 ha3 hb1 hb2 hb3 hx1 hx2 hx3 hy1 hy2 hy3 _ (HL.out _ (by repeat' (first | (with_reducible first | assumption | exact Acc.refl _ | refine Acc.alloc ?_ _ | refine Acc.setCell ?_ ?_ _) | (refine leB ?_; omega)))))).mono ?_
     rintro e W5 ⟨rfl, hb⟩
     obtain ⟨Ba, Bb, Bx, By⟩ : Blk W5 (W0.heap.size) [.int .i64 x1, .int .i64 x2, .int .i64 x3, .int .i64 y1, .int .i64 y2, .int .i64 y3] ∧ Blk W5 (W0.heap.size + 1) [.int .i64 a1, .int .i64 a2, .int .i64 a3, .int .i64 b1, .int .i64 b2, .int .i64 b3] ∧ Blk W5 (W3.heap.size) [.int .i64 0, .int .i64 0, .int .i64 0, .int .i64 0, .int .i64 0, .int .i64 0, .int .i64 0, .int .i64 0, .int .i64 0, .int .i64 0, .int .i64 0, .int .i64 0] ∧ Blk W5 (W4.heap.size) [.int .i64 w1, .int .i64 w2, .int .i64 w3, .int .i64 z1, .int .i64 z2, .int .i64 z3, .int .i64 m1, .int .i64 m2, .int .i64 m3, .int .i64 n1, .int .i64 n2, .int .i64 n3] := by
       refine ⟨?_, ?_, ?_, ?_⟩ <;> refine Blk.keep hb ?_ <;> (repeat' (first | (with_reducible first | assumption | apply Blk.set | (refine Blk.new ?_; focus (first | rfl | (simp; done))) | refine Blk.alloc ?_ _ | refine Blk.other ?_ ?_ _) | exact eqL rfl | (refine neB ?_; omega)))
     have ca := Ba.cell
     have fa := Ba.free
     have la_W5 := Ba.lt
     have cb := Bb.cell
     have fb := Bb.free
     have lb_W5 := Bb.lt
     have cx := Bx.cell
     have fx := Bx.free
     have lx_W5 := Bx.lt
     have cy := By.cell
     have fy := By.free
     have ly_W5 := By.lt
     have kaW5 : Acc w W5 := by
       refine Acc.call ?_ hb
       (repeat' (first | (with_reducible first | assumption | exact Acc.refl _ | refine Acc.alloc ?_ _ | refine Acc.setCell ?_ ?_ _) | (refine leB ?_; omega)))
     clear hb
     go_wp2_with fail
     all_goals
       go_ret
       refine ⟨by first | rfl | (simp [*]; done) | (simp [go_sem, *]; done), ?_⟩
       show Acc w _
       (repeat' (first | (with_reducible first | assumption | exact Acc.refl _ | refine Acc.alloc ?_ _ | refine Acc.setCell ?_ ?_ _) | (refine leB ?_; omega)))
    | some v =>
     obtain ⟨⟨s1, s2, s3⟩, ⟨t1, t2, t3⟩, ⟨u1, u2, u3⟩, v1, v2, v3⟩ := v
     obtain ⟨hs1, hs2, hs3⟩ := okF_i64 (sof_ok hs).1
     obtain ⟨ht1, ht2, ht3⟩ := okF_i64 (sof_ok hs).2.1
     obtain ⟨hu1, hu2, hu3⟩ := okF_i64 (sof_ok hs).2.2.1
     obtain ⟨hv1, hv2, hv3⟩ := okF_i64 (sof_ok hs).2.2.2
     have HX := Lib.hid hs
     clear hs
     refine (gave12_some HX.out (implSOf_any x1 x2 x3 y1 y2 y3 hx1 hx2 hx3 hy1 hy2 hy3 _ (HL.out _ (by repeat' (first | (with_reducible first | assumption | exact Acc.refl _ | refine Acc.alloc ?_ _ | refine Acc.setCell ?_ ?_ _) | (refine leB ?_; omega)))))).mono ?_
     rintro e W3 ⟨rfl, hb⟩
     obtain ⟨Ba, Bb⟩ : Blk W3 (W0.heap.size) [.int .i64 x1, .int .i64 x2, .int .i64 x3, .int .i64 y1, .int .i64 y2, .int .i64 y3] ∧ Blk W3 (W0.heap.size + 1) [.int .i64 a1, .int .i64 a2, .int .i64 a3, .int .i64 b1, .int .i64 b2, .int .i64 b3] := by
       refine ⟨?_, ?_⟩ <;> refine Blk.keep hb ?_ <;> (repeat' (first | (with_reducible first | assumption | apply Blk.set | (refine Blk.new ?_; focus (first | rfl | (simp; done))) | refine Blk.alloc ?_ _ | refine Blk.other ?_ ?_ _) | exact eqL rfl | (refine neB ?_; omega)))
     have ca := Ba.cell
     have fa := Ba.free
     have la_W3 := Ba.lt
     have cb := Bb.cell
     have fb := Bb.free
     have lb_W3 := Bb.lt
     have kaW3 : Acc w W3 := by
       refine Acc.call ?_ hb
       (repeat' (first | (with_reducible first | assumption | exact Acc.refl _ | refine Acc.alloc ?_ _ | refine Acc.setCell ?_ ?_ _) | (refine leB ?_; omega)))
     clear hb
     go_wp2_with fail
     cases hs : sofF a1 a2 a3 b1 b2 b3 with
     | none =>
      have HY := Lib.hid hs
      clear hs
      refine (gave12_none HY.out (implSOf_any a1 a2 a3 b1 b2 b3 ha1 ha2 ha3 hb1 hb2 hb3 _ (HL.out _ (by repeat' (first | (with_reducible first | assumption | exact Acc.refl _ | refine Acc.alloc ?_ _ | refine Acc.setCell ?_ ?_ _) | (refine leB ?_; omega)))))).mono ?_
      rintro e W4 ⟨rfl, hb⟩
      obtain ⟨Ba, Bb, Bx⟩ : Blk W4 (W0.heap.size) [.int .i64 x1, .int .i64 x2, .int .i64 x3, .int .i64 y1, .int .i64 y2, .int .i64 y3] ∧ Blk W4 (W0.heap.size + 1) [.int .i64 a1, .int .i64 a2, .int .i64 a3, .int .i64 b1, .int .i64 b2, .int .i64 b3] ∧ Blk W4 (W3.heap.size) [.int .i64 s1, .int .i64 s2, .int .i64 s3, .int .i64 t1, .int .i64 t2, .int .i64 t3, .int .i64 u1, .int .i64 u2, .int .i64 u3, .int .i64 v1, .int .i64 v2, .int .i64 v3] := by
        refine ⟨?_, ?_, ?_⟩ <;> refine Blk.keep hb ?_ <;> (repeat' (first | (with_reducible first | assumption | apply Blk.set | (refine Blk.new ?_; focus (first | rfl | (simp; done))) | refine Blk.alloc ?_ _ | refine Blk.other ?_ ?_ _) | exact eqL rfl | (refine neB ?_; omega)))
      have ca := Ba.cell
      have fa := Ba.free
      have la_W4 := Ba.lt
      have cb := Bb.cell
      have fb := Bb.free
      have lb_W4 := Bb.lt
      have cx := Bx.cell
      have fx := Bx.free
      have lx_W4 := Bx.lt
      have kaW4 : Acc w W4 := by
        refine Acc.call ?_ hb
        (repeat' (first | (with_reducible first | assumption | exact Acc.refl _ | refine Acc.alloc ?_ _ | refine Acc.setCell ?_ ?_ _) | (refine leB ?_; omega)))
      clear hb
      go_wp2_with fail
      refine wp_loop_rounds 1 ?_
      rw [rounds_succ]
      go_wp2_with fail
      refine (valid_at HS.out (implJAlike_any a1 a2 a3 b1 b2 b3 x1 x2 x3 y1 y2 y3 ha1 ha2 ha3 hb1 hb2 hb3 hx1 hx2 hx3 hy1 hy2 hy3 _ (HL.out _ (by repeat' (first | (with_reducible first | assumption | exact Acc.refl _ | refine Acc.alloc ?_ _ | refine Acc.setCell ?_ ?_ _) | (refine leB ?_; omega)))))).mono ?_
      rintro e W5 ⟨rfl, hb⟩
      obtain ⟨Ba, Bb, Bx, By⟩ : Blk W5 (W0.heap.size) [.int .i64 x1, .int .i64 x2, .int .i64 x3, .int .i64 y1, .int .i64 y2, .int .i64 y3] ∧ Blk W5 (W0.heap.size + 1) [.int .i64 a1, .int .i64 a2, .int .i64 a3, .int .i64 b1, .int .i64 b2, .int .i64 b3] ∧ Blk W5 (W3.heap.size) [.int .i64 s1, .int .i64 s2, .int .i64 s3, .int .i64 t1, .int .i64 t2, .int .i64 t3, .int .i64 u1, .int .i64 u2, .int .i64 u3, .int .i64 v1, .int .i64 v2, .int .i64 v3] ∧ Blk W5 (W4.heap.size) [.int .i64 0, .int .i64 0, .int .i64 0, .int .i64 0, .int .i64 0, .int .i64 0, .int .i64 0, .int .i64 0, .int .i64 0, .int .i64 0, .int .i64 0, .int .i64 0] := by
        refine ⟨?_, ?_, ?_, ?_⟩ <;> refine Blk.keep hb ?_ <;> (repeat' (first | (with_reducible first | assumption | apply Blk.set | (refine Blk.new ?_; focus (first | rfl | (simp; done))) | refine Blk.alloc ?_ _ | refine Blk.other ?_ ?_ _) | exact eqL rfl | (refine neB ?_; omega)))
      have ca := Ba.cell
      have fa := Ba.free
      have la_W5 := Ba.lt
      have cb := Bb.cell
      have fb := Bb.free
      have lb_W5 := Bb.lt
      have cx := Bx.cell
      have fx := Bx.free
      have lx_W5 := Bx.lt
      have cy := By.cell
      have fy := By.free
      have ly_W5 := By.lt
      have kaW5 : Acc w W5 := by
        refine Acc.call ?_ hb
        (repeat' (first | (with_reducible first | assumption | exact Acc.refl _ | refine Acc.alloc ?_ _ | refine Acc.setCell ?_ ?_ _) | (refine leB ?_; omega)))
      clear hb
      go_wp2_with fail
      all_goals
        go_ret
        refine ⟨by first | rfl | (simp [*]; done) | (simp [go_sem, *]; done), ?_⟩
        show Acc w _
        (repeat' (first | (with_reducible first | assumption | exact Acc.refl _ | refine Acc.alloc ?_ _ | refine Acc.setCell ?_ ?_ _) | (refine leB ?_; omega)))
     | some v =>
      obtain ⟨⟨w1, w2, w3⟩, ⟨z1, z2, z3⟩, ⟨m1, m2, m3⟩, n1, n2, n3⟩ := v
      obtain ⟨hw1, hw2, hw3⟩ := okF_i64 (sof_ok hs).1
      obtain ⟨hz1, hz2, hz3⟩ := okF_i64 (sof_ok hs).2.1
      obtain ⟨hm1, hm2, hm3⟩ := okF_i64 (sof_ok hs).2.2.1
      obtain ⟨hn1, hn2, hn3⟩ := okF_i64 (sof_ok hs).2.2.2
      have HY := Lib.hid hs
      clear hs
      refine (gave12_some HY.out (implSOf_any a1 a2 a3 b1 b2 b3 ha1 ha2 ha3 hb1 hb2 hb3 _ (HL.out _ (by repeat' (first | (with_reducible first | assumption | exact Acc.refl _ | refine Acc.alloc ?_ _ | refine Acc.setCell ?_ ?_ _) | (refine leB ?_; omega)))))).mono ?_
      rintro e W4 ⟨rfl, hb⟩
      obtain ⟨Ba, Bb, Bx⟩ : Blk W4 (W0.heap.size) [.int .i64 x1, .int .i64 x2, .int .i64 x3, .int .i64 y1, .int .i64 y2, .int .i64 y3] ∧ Blk W4 (W0.heap.size + 1) [.int .i64 a1, .int .i64 a2, .int .i64 a3, .int .i64 b1, .int .i64 b2, .int .i64 b3] ∧ Blk W4 (W3.heap.size) [.int .i64 s1, .int .i64 s2, .int .i64 s3, .int .i64 t1, .int .i64 t2, .int .i64 t3, .int .i64 u1, .int .i64 u2, .int .i64 u3, .int .i64 v1, .int .i64 v2, .int .i64 v3] := by
        refine ⟨?_, ?_, ?_⟩ <;> refine Blk.keep hb ?_ <;> (repeat' (first | (with_reducible first | assumption | apply Blk.set | (refine Blk.new ?_; focus (first | rfl | (simp; done))) | refine Blk.alloc ?_ _ | refine Blk.other ?_ ?_ _) | exact eqL rfl | (refine neB ?_; omega)))
      have ca := Ba.cell
      have fa := Ba.free
      have la_W4 := Ba.lt
      have cb := Bb.cell
      have fb := Bb.free
      have lb_W4 := Bb.lt
      have cx := Bx.cell
      have fx := Bx.free
      have lx_W4 := Bx.lt
      have kaW4 : Acc w W4 := by
        refine Acc.call ?_ hb
        (repeat' (first | (with_reducible first | assumption | exact Acc.refl _ | refine Acc.alloc ?_ _ | refine Acc.setCell ?_ ?_ _) | (refine leB ?_; omega)))
      clear hb
      go_wp2_with fail
      refine wp_loop_rounds 5 ?_
      by_cases q00 : s1 < 10000
      · skip
        by_cases q01 : -10000 < s1
        · skip
          by_cases q02 : w1 < 10000
          · skip
            by_cases q03 : -10000 < w1
            · skip
              by_cases q04 : s3 < 10000
              · skip
                by_cases q05 : w3 < 10000
                · skip
                  rw [rounds_succ]
                  go_wp2_with fail
                  by_cases q10 : t1 < 10000
                  · skip
                    by_cases q11 : -10000 < t1
                    · skip
                      by_cases q12 : z1 < 10000
                      · skip
                        by_cases q13 : -10000 < z1
                        · skip
                          by_cases q14 : t3 < 10000
                          · skip
                            by_cases q15 : z3 < 10000
                            · skip
                              rw [rounds_succ]
                              go_wp2_with fail
                              by_cases q20 : u1 < 10000
                              · skip
                                by_cases q21 : -10000 < u1
                                · skip
                                  by_cases q22 : m1 < 10000
                                  · skip
                                    by_cases q23 : -10000 < m1
                                    · skip
                                      by_cases q24 : u3 < 10000
                                      · skip
                                        by_cases q25 : m3 < 10000
                                        · skip
                                          rw [rounds_succ]
                                          go_wp2_with fail
                                          by_cases q30 : v1 < 10000
                                          · skip
                                            by_cases q31 : -10000 < v1
                                            · skip
                                              by_cases q32 : n1 < 10000
                                              · skip
                                                by_cases q33 : -10000 < n1
                                                · skip
                                                  by_cases q34 : v3 < 10000
                                                  · skip
                                                    by_cases q35 : n3 < 10000
                                                    · skip
                                                      rw [rounds_succ]
                                                      go_wp2_with fail
                                                      rw [rounds_succ]
                                                      go_wp2_with fail
                                                      refine (valid_at HS.out (implJAlike_any a1 a2 a3 b1 b2 b3 x1 x2 x3 y1 y2 y3 ha1 ha2 ha3 hb1 hb2 hb3 hx1 hx2 hx3 hy1 hy2 hy3 _ (HL.out _ (by repeat' (first | (with_reducible first | assumption | exact Acc.refl _ | refine Acc.alloc ?_ _ | refine Acc.setCell ?_ ?_ _) | (refine leB ?_; omega)))))).mono ?_
                                                      rintro e W5 ⟨rfl, hb⟩
                                                      obtain ⟨Ba, Bb, Bx, By⟩ : Blk W5 (W0.heap.size) [.int .i64 x1, .int .i64 x2, .int .i64 x3, .int .i64 y1, .int .i64 y2, .int .i64 y3] ∧ Blk W5 (W0.heap.size + 1) [.int .i64 a1, .int .i64 a2, .int .i64 a3, .int .i64 b1, .int .i64 b2, .int .i64 b3] ∧ Blk W5 (W3.heap.size) [.int .i64 s1, .int .i64 s2, .int .i64 s3, .int .i64 t1, .int .i64 t2, .int .i64 t3, .int .i64 u1, .int .i64 u2, .int .i64 u3, .int .i64 v1, .int .i64 v2, .int .i64 v3] ∧ Blk W5 (W4.heap.size) [.int .i64 w1, .int .i64 w2, .int .i64 w3, .int .i64 z1, .int .i64 z2, .int .i64 z3, .int .i64 m1, .int .i64 m2, .int .i64 m3, .int .i64 n1, .int .i64 n2, .int .i64 n3] := by
                                                        refine ⟨?_, ?_, ?_, ?_⟩ <;> refine Blk.keep hb ?_ <;> (repeat' (first | (with_reducible first | assumption | apply Blk.set | (refine Blk.new ?_; focus (first | rfl | (simp; done))) | refine Blk.alloc ?_ _ | refine Blk.other ?_ ?_ _) | exact eqL rfl | (refine neB ?_; omega)))
                                                      have ca := Ba.cell
                                                      have fa := Ba.free
                                                      have la_W5 := Ba.lt
                                                      have cb := Bb.cell
                                                      have fb := Bb.free
                                                      have lb_W5 := Bb.lt
                                                      have cx := Bx.cell
                                                      have fx := Bx.free
                                                      have lx_W5 := Bx.lt
                                                      have cy := By.cell
                                                      have fy := By.free
                                                      have ly_W5 := By.lt
                                                      have kaW5 : Acc w W5 := by
                                                        refine Acc.call ?_ hb
                                                        (repeat' (first | (with_reducible first | assumption | exact Acc.refl _ | refine Acc.alloc ?_ _ | refine Acc.setCell ?_ ?_ _) | (refine leB ?_; omega)))
                                                      clear hb
                                                      go_wp2_with fail
                                                      have hal := alike_sof HO.out HX.out HY.out (by omega) (by omega)
                                                      have HAL := Lib.hid hal
                                                      clear hal
                                                      refine (valid_at HAL.out (implSAlike_any s1 s2 s3 t1 t2 t3 u1 u2 u3 v1 v2 v3 w1 w2 w3 z1 z2 z3 m1 m2 m3 n1 n2 n3 hs1 hs2 hs3 ht1 ht2 ht3 hu1 hu2 hu3 hv1 hv2 hv3 hw1 hw2 hw3 hz1 hz2 hz3 hm1 hm2 hm3 hn1 hn2 hn3 _ (HL.out _ (by repeat' (first | (with_reducible first | assumption | exact Acc.refl _ | refine Acc.alloc ?_ _ | refine Acc.setCell ?_ ?_ _) | (refine leB ?_; omega)))))).mono ?_
                                                      rintro e W6 ⟨rfl, hb⟩
                                                      obtain ⟨Ba, Bb, Bx, By⟩ : Blk W6 (W0.heap.size) [.int .i64 x1, .int .i64 x2, .int .i64 x3, .int .i64 y1, .int .i64 y2, .int .i64 y3] ∧ Blk W6 (W0.heap.size + 1) [.int .i64 a1, .int .i64 a2, .int .i64 a3, .int .i64 b1, .int .i64 b2, .int .i64 b3] ∧ Blk W6 (W3.heap.size) [.int .i64 s1, .int .i64 s2, .int .i64 s3, .int .i64 t1, .int .i64 t2, .int .i64 t3, .int .i64 u1, .int .i64 u2, .int .i64 u3, .int .i64 v1, .int .i64 v2, .int .i64 v3] ∧ Blk W6 (W4.heap.size) [.int .i64 w1, .int .i64 w2, .int .i64 w3, .int .i64 z1, .int .i64 z2, .int .i64 z3, .int .i64 m1, .int .i64 m2, .int .i64 m3, .int .i64 n1, .int .i64 n2, .int .i64 n3] := by
                                                        refine ⟨?_, ?_, ?_, ?_⟩ <;> refine Blk.keep hb ?_ <;> (repeat' (first | (with_reducible first | assumption | apply Blk.set | (refine Blk.new ?_; focus (first | rfl | (simp; done))) | refine Blk.alloc ?_ _ | refine Blk.other ?_ ?_ _) | exact eqL rfl | (refine neB ?_; omega)))
                                                      have ca := Ba.cell
                                                      have fa := Ba.free
                                                      have la_W6 := Ba.lt
                                                      have cb := Bb.cell
                                                      have fb := Bb.free
                                                      have lb_W6 := Bb.lt
                                                      have cx := Bx.cell
                                                      have fx := Bx.free
                                                      have lx_W6 := Bx.lt
                                                      have cy := By.cell
                                                      have fy := By.free
                                                      have ly_W6 := By.lt
                                                      have kaW6 : Acc w W6 := by
                                                        refine Acc.call ?_ hb
                                                        (repeat' (first | (with_reducible first | assumption | exact Acc.refl _ | refine Acc.alloc ?_ _ | refine Acc.setCell ?_ ?_ _) | (refine leB ?_; omega)))
                                                      clear hb
                                                      go_wp2_with fail
                                                      all_goals
                                                        go_ret
                                                        refine ⟨by first | rfl | (simp [*]; done) | (simp [go_sem, *]; done), ?_⟩
                                                        show Acc w _
                                                        (repeat' (first | (with_reducible first | assumption | exact Acc.refl _ | refine Acc.alloc ?_ _ | refine Acc.setCell ?_ ?_ _) | (refine leB ?_; omega)))
                                                    · skip
                                                      rw [rounds_succ]
                                                      go_wp2_with fail
                                                      rw [rounds_succ]
                                                      go_wp2_with fail
                                                      refine (valid_at HS.out (implJAlike_any a1 a2 a3 b1 b2 b3 x1 x2 x3 y1 y2 y3 ha1 ha2 ha3 hb1 hb2 hb3 hx1 hx2 hx3 hy1 hy2 hy3 _ (HL.out _ (by repeat' (first | (with_reducible first | assumption | exact Acc.refl _ | refine Acc.alloc ?_ _ | refine Acc.setCell ?_ ?_ _) | (refine leB ?_; omega)))))).mono ?_
                                                      rintro e W5 ⟨rfl, hb⟩
                                                      obtain ⟨Ba, Bb, Bx, By⟩ : Blk W5 (W0.heap.size) [.int .i64 x1, .int .i64 x2, .int .i64 x3, .int .i64 y1, .int .i64 y2, .int .i64 y3] ∧ Blk W5 (W0.heap.size + 1) [.int .i64 a1, .int .i64 a2, .int .i64 a3, .int .i64 b1, .int .i64 b2, .int .i64 b3] ∧ Blk W5 (W3.heap.size) [.int .i64 s1, .int .i64 s2, .int .i64 s3, .int .i64 t1, .int .i64 t2, .int .i64 t3, .int .i64 u1, .int .i64 u2, .int .i64 u3, .int .i64 v1, .int .i64 v2, .int .i64 v3] ∧ Blk W5 (W4.heap.size) [.int .i64 w1, .int .i64 w2, .int .i64 w3, .int .i64 z1, .int .i64 z2, .int .i64 z3, .int .i64 m1, .int .i64 m2, .int .i64 m3, .int .i64 n1, .int .i64 n2, .int .i64 n3] := by
                                                        refine ⟨?_, ?_, ?_, ?_⟩ <;> refine Blk.keep hb ?_ <;> (repeat' (first | (with_reducible first | assumption | apply Blk.set | (refine Blk.new ?_; focus (first | rfl | (simp; done))) | refine Blk.alloc ?_ _ | refine Blk.other ?_ ?_ _) | exact eqL rfl | (refine neB ?_; omega)))
                                                      have ca := Ba.cell
                                                      have fa := Ba.free
                                                      have la_W5 := Ba.lt
                                                      have cb := Bb.cell
                                                      have fb := Bb.free
                                                      have lb_W5 := Bb.lt
                                                      have cx := Bx.cell
                                                      have fx := Bx.free
                                                      have lx_W5 := Bx.lt
                                                      have cy := By.cell
                                                      have fy := By.free
                                                      have ly_W5 := By.lt
                                                      have kaW5 : Acc w W5 := by
                                                        refine Acc.call ?_ hb
                                                        (repeat' (first | (with_reducible first | assumption | exact Acc.refl _ | refine Acc.alloc ?_ _ | refine Acc.setCell ?_ ?_ _) | (refine leB ?_; omega)))
                                                      clear hb
                                                      go_wp2_with fail
                                                      all_goals
                                                        go_ret
                                                        refine ⟨by first | rfl | (simp [*]; done) | (simp [go_sem, *]; done), ?_⟩
                                                        show Acc w _
                                                        (repeat' (first | (with_reducible first | assumption | exact Acc.refl _ | refine Acc.alloc ?_ _ | refine Acc.setCell ?_ ?_ _) | (refine leB ?_; omega)))
                                                  · skip
                                                    rw [rounds_succ]
                                                    go_wp2_with fail
                                                    rw [rounds_succ]
                                                    go_wp2_with fail
                                                    refine (valid_at HS.out (implJAlike_any a1 a2 a3 b1 b2 b3 x1 x2 x3 y1 y2 y3 ha1 ha2 ha3 hb1 hb2 hb3 hx1 hx2 hx3 hy1 hy2 hy3 _ (HL.out _ (by repeat' (first | (with_reducible first | assumption | exact Acc.refl _ | refine Acc.alloc ?_ _ | refine Acc.setCell ?_ ?_ _) | (refine leB ?_; omega)))))).mono ?_
                                                    rintro e W5 ⟨rfl, hb⟩
                                                    obtain ⟨Ba, Bb, Bx, By⟩ : Blk W5 (W0.heap.size) [.int .i64 x1, .int .i64 x2, .int .i64 x3, .int .i64 y1, .int .i64 y2, .int .i64 y3] ∧ Blk W5 (W0.heap.size + 1) [.int .i64 a1, .int .i64 a2, .int .i64 a3, .int .i64 b1, .int .i64 b2, .int .i64 b3] ∧ Blk W5 (W3.heap.size) [.int .i64 s1, .int .i64 s2, .int .i64 s3, .int .i64 t1, .int .i64 t2, .int .i64 t3, .int .i64 u1, .int .i64 u2, .int .i64 u3, .int .i64 v1, .int .i64 v2, .int .i64 v3] ∧ Blk W5 (W4.heap.size) [.int .i64 w1, .int .i64 w2, .int .i64 w3, .int .i64 z1, .int .i64 z2, .int .i64 z3, .int .i64 m1, .int .i64 m2, .int .i64 m3, .int .i64 n1, .int .i64 n2, .int .i64 n3] := by
                                                      refine ⟨?_, ?_, ?_, ?_⟩ <;> refine Blk.keep hb ?_ <;> (repeat' (first | (with_reducible first | assumption | apply Blk.set | (refine Blk.new ?_; focus (first | rfl | (simp; done))) | refine Blk.alloc ?_ _ | refine Blk.other ?_ ?_ _) | exact eqL rfl | (refine neB ?_; omega)))
                                                    have ca := Ba.cell
                                                    have fa := Ba.free
                                                    have la_W5 := Ba.lt
                                                    have cb := Bb.cell
                                                    have fb := Bb.free
                                                    have lb_W5 := Bb.lt
                                                    have cx := Bx.cell
                                                    have fx := Bx.free
                                                    have lx_W5 := Bx.lt
                                                    have cy := By.cell
                                                    have fy := By.free
                                                    have ly_W5 := By.lt
                                                    have kaW5 : Acc w W5 := by
                                                      refine Acc.call ?_ hb
                                                      (repeat' (first | (with_reducible first | assumption | exact Acc.refl _ | refine Acc.alloc ?_ _ | refine Acc.setCell ?_ ?_ _) | (refine leB ?_; omega)))
                                                    clear hb
                                                    go_wp2_with fail
                                                    all_goals
                                                      go_ret
                                                      refine ⟨by first | rfl | (simp [*]; done) | (simp [go_sem, *]; done), ?_⟩
                                                      show Acc w _
                                                      (repeat' (first | (with_reducible first | assumption | exact Acc.refl _ | refine Acc.alloc ?_ _ | refine Acc.setCell ?_ ?_ _) | (refine leB ?_; omega)))
                                                · skip
                                                  rw [rounds_succ]
                                                  go_wp2_with fail
                                                  rw [rounds_succ]
                                                  go_wp2_with fail
                                                  refine (valid_at HS.out (implJAlike_any a1 a2 a3 b1 b2 b3 x1 x2 x3 y1 y2 y3 ha1 ha2 ha3 hb1 hb2 hb3 hx1 hx2 hx3 hy1 hy2 hy3 _ (HL.out _ (by repeat' (first | (with_reducible first | assumption | exact Acc.refl _ | refine Acc.alloc ?_ _ | refine Acc.setCell ?_ ?_ _) | (refine leB ?_; omega)))))).mono ?_
                                                  rintro e W5 ⟨rfl, hb⟩
                                                  obtain ⟨Ba, Bb, Bx, By⟩ : Blk W5 (W0.heap.size) [.int .i64 x1, .int .i64 x2, .int .i64 x3, .int .i64 y1, .int .i64 y2, .int .i64 y3] ∧ Blk W5 (W0.heap.size + 1) [.int .i64 a1, .int .i64 a2, .int .i64 a3, .int .i64 b1, .int .i64 b2, .int .i64 b3] ∧ Blk W5 (W3.heap.size) [.int .i64 s1, .int .i64 s2, .int .i64 s3, .int .i64 t1, .int .i64 t2, .int .i64 t3, .int .i64 u1, .int .i64 u2, .int .i64 u3, .int .i64 v1, .int .i64 v2, .int .i64 v3] ∧ Blk W5 (W4.heap.size) [.int .i64 w1, .int .i64 w2, .int .i64 w3, .int .i64 z1, .int .i64 z2, .int .i64 z3, .int .i64 m1, .int .i64 m2, .int .i64 m3, .int .i64 n1, .int .i64 n2, .int .i64 n3] := by
                                                    refine ⟨?_, ?_, ?_, ?_⟩ <;> refine Blk.keep hb ?_ <;> (repeat' (first | (with_reducible first | assumption | apply Blk.set | (refine Blk.new ?_; focus (first | rfl | (simp; done))) | refine Blk.alloc ?_ _ | refine Blk.other ?_ ?_ _) | exact eqL rfl | (refine neB ?_; omega)))
                                                  have ca := Ba.cell
                                                  have fa := Ba.free
                                                  have la_W5 := Ba.lt
                                                  have cb := Bb.cell
                                                  have fb := Bb.free
                                                  have lb_W5 := Bb.lt
                                                  have cx := Bx.cell
                                                  have fx := Bx.free
                                                  have lx_W5 := Bx.lt
                                                  have cy := By.cell
                                                  have fy := By.free
                                                  have ly_W5 := By.lt
                                                  have kaW5 : Acc w W5 := by
                                                    refine Acc.call ?_ hb
                                                    (repeat' (first | (with_reducible first | assumption | exact Acc.refl _ | refine Acc.alloc ?_ _ | refine Acc.setCell ?_ ?_ _) | (refine leB ?_; omega)))
                                                  clear hb
                                                  go_wp2_with fail
                                                  all_goals
                                                    go_ret
                                                    refine ⟨by first | rfl | (simp [*]; done) | (simp [go_sem, *]; done), ?_⟩
                                                    show Acc w _
                                                    (repeat' (first | (with_reducible first | assumption | exact Acc.refl _ | refine Acc.alloc ?_ _ | refine Acc.setCell ?_ ?_ _) | (refine leB ?_; omega)))
                                              · skip
                                                rw [rounds_succ]
                                                go_wp2_with fail
                                                rw [rounds_succ]
                                                go_wp2_with fail
                                                refine (valid_at HS.out (implJAlike_any a1 a2 a3 b1 b2 b3 x1 x2 x3 y1 y2 y3 ha1 ha2 ha3 hb1 hb2 hb3 hx1 hx2 hx3 hy1 hy2 hy3 _ (HL.out _ (by repeat' (first | (with_reducible first | assumption | exact Acc.refl _ | refine Acc.alloc ?_ _ | refine Acc.setCell ?_ ?_ _) | (refine leB ?_; omega)))))).mono ?_
                                                rintro e W5 ⟨rfl, hb⟩
                                                obtain ⟨Ba, Bb, Bx, By⟩ : Blk W5 (W0.heap.size) [.int .i64 x1, .int .i64 x2, .int .i64 x3, .int .i64 y1, .int .i64 y2, .int .i64 y3] ∧ Blk W5 (W0.heap.size + 1) [.int .i64 a1, .int .i64 a2, .int .i64 a3, .int .i64 b1, .int .i64 b2, .int .i64 b3] ∧ Blk W5 (W3.heap.size) [.int .i64 s1, .int .i64 s2, .int .i64 s3, .int .i64 t1, .int .i64 t2, .int .i64 t3, .int .i64 u1, .int .i64 u2, .int .i64 u3, .int .i64 v1, .int .i64 v2, .int .i64 v3] ∧ Blk W5 (W4.heap.size) [.int .i64 w1, .int .i64 w2, .int .i64 w3, .int .i64 z1, .int .i64 z2, .int .i64 z3, .int .i64 m1, .int .i64 m2, .int .i64 m3, .int .i64 n1, .int .i64 n2, .int .i64 n3] := by
                                                  refine ⟨?_, ?_, ?_, ?_⟩ <;> refine Blk.keep hb ?_ <;> (repeat' (first | (with_reducible first | assumption | apply Blk.set | (refine Blk.new ?_; focus (first | rfl | (simp; done))) | refine Blk.alloc ?_ _ | refine Blk.other ?_ ?_ _) | exact eqL rfl | (refine neB ?_; omega)))
                                                have ca := Ba.cell
                                                have fa := Ba.free
                                                have la_W5 := Ba.lt
                                                have cb := Bb.cell
                                                have fb := Bb.free
                                                have lb_W5 := Bb.lt
                                                have cx := Bx.cell
                                                have fx := Bx.free
                                                have lx_W5 := Bx.lt
                                                have cy := By.cell
                                                have fy := By.free
                                                have ly_W5 := By.lt
                                                have kaW5 : Acc w W5 := by
                                                  refine Acc.call ?_ hb
                                                  (repeat' (first | (with_reducible first | assumption | exact Acc.refl _ | refine Acc.alloc ?_ _ | refine Acc.setCell ?_ ?_ _) | (refine leB ?_; omega)))
                                                clear hb
                                                go_wp2_with fail
                                                all_goals
                                                  go_ret
                                                  refine ⟨by first | rfl | (simp [*]; done) | (simp [go_sem, *]; done), ?_⟩
                                                  show Acc w _
                                                  (repeat' (first | (with_reducible first | assumption | exact Acc.refl _ | refine Acc.alloc ?_ _ | refine Acc.setCell ?_ ?_ _) | (refine leB ?_; omega)))
                                            · skip
                                              rw [rounds_succ]
                                              go_wp2_with fail
                                              rw [rounds_succ]
                                              go_wp2_with fail
                                              refine (valid_at HS.out (implJAlike_any a1 a2 a3 b1 b2 b3 x1 x2 x3 y1 y2 y3 ha1 ha2 ha3 hb1 hb2 hb3 hx1 hx2 hx3 hy1 hy2 hy3 _ (HL.out _ (by repeat' (first | (with_reducible first | assumption | exact Acc.refl _ | refine Acc.alloc ?_ _ | refine Acc.setCell ?_ ?_ _) | (refine leB ?_; omega)))))).mono ?_
                                              rintro e W5 ⟨rfl, hb⟩
                                              obtain ⟨Ba, Bb, Bx, By⟩ : Blk W5 (W0.heap.size) [.int .i64 x1, .int .i64 x2, .int .i64 x3, .int .i64 y1, .int .i64 y2, .int .i64 y3] ∧ Blk W5 (W0.heap.size + 1) [.int .i64 a1, .int .i64 a2, .int .i64 a3, .int .i64 b1, .int .i64 b2, .int .i64 b3] ∧ Blk W5 (W3.heap.size) [.int .i64 s1, .int .i64 s2, .int .i64 s3, .int .i64 t1, .int .i64 t2, .int .i64 t3, .int .i64 u1, .int .i64 u2, .int .i64 u3, .int .i64 v1, .int .i64 v2, .int .i64 v3] ∧ Blk W5 (W4.heap.size) [.int .i64 w1, .int .i64 w2, .int .i64 w3, .int .i64 z1, .int .i64 z2, .int .i64 z3, .int .i64 m1, .int .i64 m2, .int .i64 m3, .int .i64 n1, .int .i64 n2, .int .i64 n3] := by
                                                refine ⟨?_, ?_, ?_, ?_⟩ <;> refine Blk.keep hb ?_ <;> (repeat' (first | (with_reducible first | assumption | apply Blk.set | (refine Blk.new ?_; focus (first | rfl | (simp; done))) | refine Blk.alloc ?_ _ | refine Blk.other ?_ ?_ _) | exact eqL rfl | (refine neB ?_; omega)))
                                              have ca := Ba.cell
                                              have fa := Ba.free
                                              have la_W5 := Ba.lt
                                              have cb := Bb.cell
                                              have fb := Bb.free
                                              have lb_W5 := Bb.lt
                                              have cx := Bx.cell
                                              have fx := Bx.free
                                              have lx_W5 := Bx.lt
                                              have cy := By.cell
                                              have fy := By.free
                                              have ly_W5 := By.lt
                                              have kaW5 : Acc w W5 := by
                                                refine Acc.call ?_ hb
                                                (repeat' (first | (with_reducible first | assumption | exact Acc.refl _ | refine Acc.alloc ?_ _ | refine Acc.setCell ?_ ?_ _) | (refine leB ?_; omega)))
                                              clear hb
                                              go_wp2_with fail
                                              all_goals
                                                go_ret
                                                refine ⟨by first | rfl | (simp [*]; done) | (simp [go_sem, *]; done), ?_⟩
                                                show Acc w _
                                                (repeat' (first | (with_reducible first | assumption | exact Acc.refl _ | refine Acc.alloc ?_ _ | refine Acc.setCell ?_ ?_ _) | (refine leB ?_; omega)))
                                          · skip
                                            rw [rounds_succ]
                                            go_wp2_with fail
                                            rw [rounds_succ]
                                            go_wp2_with fail
                                            refine (valid_at HS.out (implJAlike_any a1 a2 a3 b1 b2 b3 x1 x2 x3 y1 y2 y3 ha1 ha2 ha3 hb1 hb2 hb3 hx1 hx2 hx3 hy1 hy2 hy3 _ (HL.out _ (by repeat' (first | (with_reducible first | assumption | exact Acc.refl _ | refine Acc.alloc ?_ _ | refine Acc.setCell ?_ ?_ _) | (refine leB ?_; omega)))))).mono ?_
                                            rintro e W5 ⟨rfl, hb⟩
                                            obtain ⟨Ba, Bb, Bx, By⟩ : Blk W5 (W0.heap.size) [.int .i64 x1, .int .i64 x2, .int .i64 x3, .int .i64 y1, .int .i64 y2, .int .i64 y3] ∧ Blk W5 (W0.heap.size + 1) [.int .i64 a1, .int .i64 a2, .int .i64 a3, .int .i64 b1, .int .i64 b2, .int .i64 b3] ∧ Blk W5 (W3.heap.size) [.int .i64 s1, .int .i64 s2, .int .i64 s3, .int .i64 t1, .int .i64 t2, .int .i64 t3, .int .i64 u1, .int .i64 u2, .int .i64 u3, .int .i64 v1, .int .i64 v2, .int .i64 v3] ∧ Blk W5 (W4.heap.size) [.int .i64 w1, .int .i64 w2, .int .i64 w3, .int .i64 z1, .int .i64 z2, .int .i64 z3, .int .i64 m1, .int .i64 m2, .int .i64 m3, .int .i64 n1, .int .i64 n2, .int .i64 n3] := by
                                              refine ⟨?_, ?_, ?_, ?_⟩ <;> refine Blk.keep hb ?_ <;> (repeat' (first | (with_reducible first | assumption | apply Blk.set | (refine Blk.new ?_; focus (first | rfl | (simp; done))) | refine Blk.alloc ?_ _ | refine Blk.other ?_ ?_ _) | exact eqL rfl | (refine neB ?_; omega)))
                                            have ca := Ba.cell
                                            have fa := Ba.free
                                            have la_W5 := Ba.lt
                                            have cb := Bb.cell
                                            have fb := Bb.free
                                            have lb_W5 := Bb.lt
                                            have cx := Bx.cell
                                            have fx := Bx.free
                                            have lx_W5 := Bx.lt
                                            have cy := By.cell
                                            have fy := By.free
                                            have ly_W5 := By.lt
                                            have kaW5 : Acc w W5 := by
                                              refine Acc.call ?_ hb
                                              (repeat' (first | (with_reducible first | assumption | exact Acc.refl _ | refine Acc.alloc ?_ _ | refine Acc.setCell ?_ ?_ _) | (refine leB ?_; omega)))
                                            clear hb
                                            go_wp2_with fail
                                            all_goals
                                              go_ret
                                              refine ⟨by first | rfl | (simp [*]; done) | (simp [go_sem, *]; done), ?_⟩
                                              show Acc w _
                                              (repeat' (first | (with_reducible first | assumption | exact Acc.refl _ | refine Acc.alloc ?_ _ | refine Acc.setCell ?_ ?_ _) | (refine leB ?_; omega)))
                                        · skip
                                          rw [rounds_succ]
                                          go_wp2_with fail
                                          rw [rounds_succ]
                                          go_wp2_with fail
                                          rw [rounds_succ]
                                          go_wp2_with fail
                                          refine (valid_at HS.out (implJAlike_any a1 a2 a3 b1 b2 b3 x1 x2 x3 y1 y2 y3 ha1 ha2 ha3 hb1 hb2 hb3 hx1 hx2 hx3 hy1 hy2 hy3 _ (HL.out _ (by repeat' (first | (with_reducible first | assumption | exact Acc.refl _ | refine Acc.alloc ?_ _ | refine Acc.setCell ?_ ?_ _) | (refine leB ?_; omega)))))).mono ?_
                                          rintro e W5 ⟨rfl, hb⟩
                                          obtain ⟨Ba, Bb, Bx, By⟩ : Blk W5 (W0.heap.size) [.int .i64 x1, .int .i64 x2, .int .i64 x3, .int .i64 y1, .int .i64 y2, .int .i64 y3] ∧ Blk W5 (W0.heap.size + 1) [.int .i64 a1, .int .i64 a2, .int .i64 a3, .int .i64 b1, .int .i64 b2, .int .i64 b3] ∧ Blk W5 (W3.heap.size) [.int .i64 s1, .int .i64 s2, .int .i64 s3, .int .i64 t1, .int .i64 t2, .int .i64 t3, .int .i64 u1, .int .i64 u2, .int .i64 u3, .int .i64 v1, .int .i64 v2, .int .i64 v3] ∧ Blk W5 (W4.heap.size) [.int .i64 w1, .int .i64 w2, .int .i64 w3, .int .i64 z1, .int .i64 z2, .int .i64 z3, .int .i64 m1, .int .i64 m2, .int .i64 m3, .int .i64 n1, .int .i64 n2, .int .i64 n3] := by
                                            refine ⟨?_, ?_, ?_, ?_⟩ <;> refine Blk.keep hb ?_ <;> (repeat' (first | (with_reducible first | assumption | apply Blk.set | (refine Blk.new ?_; focus (first | rfl | (simp; done))) | refine Blk.alloc ?_ _ | refine Blk.other ?_ ?_ _) | exact eqL rfl | (refine neB ?_; omega)))
                                          have ca := Ba.cell
                                          have fa := Ba.free
                                          have la_W5 := Ba.lt
                                          have cb := Bb.cell
                                          have fb := Bb.free
                                          have lb_W5 := Bb.lt
                                          have cx := Bx.cell
                                          have fx := Bx.free
                                          have lx_W5 := Bx.lt
                                          have cy := By.cell
                                          have fy := By.free
                                          have ly_W5 := By.lt
                                          have kaW5 : Acc w W5 := by
                                            refine Acc.call ?_ hb
                                            (repeat' (first | (with_reducible first | assumption | exact Acc.refl _ | refine Acc.alloc ?_ _ | refine Acc.setCell ?_ ?_ _) | (refine leB ?_; omega)))
                                          clear hb
                                          go_wp2_with fail
                                          all_goals
                                            go_ret
                                            refine ⟨by first | rfl | (simp [*]; done) | (simp [go_sem, *]; done), ?_⟩
                                            show Acc w _
                                            (repeat' (first | (with_reducible first | assumption | exact Acc.refl _ | refine Acc.alloc ?_ _ | refine Acc.setCell ?_ ?_ _) | (refine leB ?_; omega)))
                                      · skip
                                        rw [rounds_succ]
                                        go_wp2_with fail
                                        rw [rounds_succ]
                                        go_wp2_with fail
                                        rw [rounds_succ]
                                        go_wp2_with fail
                                        refine (valid_at HS.out (implJAlike_any a1 a2 a3 b1 b2 b3 x1 x2 x3 y1 y2 y3 ha1 ha2 ha3 hb1 hb2 hb3 hx1 hx2 hx3 hy1 hy2 hy3 _ (HL.out _ (by repeat' (first | (with_reducible first | assumption | exact Acc.refl _ | refine Acc.alloc ?_ _ | refine Acc.setCell ?_ ?_ _) | (refine leB ?_; omega)))))).mono ?_
                                        rintro e W5 ⟨rfl, hb⟩
                                        obtain ⟨Ba, Bb, Bx, By⟩ : Blk W5 (W0.heap.size) [.int .i64 x1, .int .i64 x2, .int .i64 x3, .int .i64 y1, .int .i64 y2, .int .i64 y3] ∧ Blk W5 (W0.heap.size + 1) [.int .i64 a1, .int .i64 a2, .int .i64 a3, .int .i64 b1, .int .i64 b2, .int .i64 b3] ∧ Blk W5 (W3.heap.size) [.int .i64 s1, .int .i64 s2, .int .i64 s3, .int .i64 t1, .int .i64 t2, .int .i64 t3, .int .i64 u1, .int .i64 u2, .int .i64 u3, .int .i64 v1, .int .i64 v2, .int .i64 v3] ∧ Blk W5 (W4.heap.size) [.int .i64 w1, .int .i64 w2, .int .i64 w3, .int .i64 z1, .int .i64 z2, .int .i64 z3, .int .i64 m1, .int .i64 m2, .int .i64 m3, .int .i64 n1, .int .i64 n2, .int .i64 n3] := by
                                          refine ⟨?_, ?_, ?_, ?_⟩ <;> refine Blk.keep hb ?_ <;> (repeat' (first | (with_reducible first | assumption | apply Blk.set | (refine Blk.new ?_; focus (first | rfl | (simp; done))) | refine Blk.alloc ?_ _ | refine Blk.other ?_ ?_ _) | exact eqL rfl | (refine neB ?_; omega)))
                                        have ca := Ba.cell
                                        have fa := Ba.free
                                        have la_W5 := Ba.lt
                                        have cb := Bb.cell
                                        have fb := Bb.free
                                        have lb_W5 := Bb.lt
                                        have cx := Bx.cell
                                        have fx := Bx.free
                                        have lx_W5 := Bx.lt
                                        have cy := By.cell
                                        have fy := By.free
                                        have ly_W5 := By.lt
                                        have kaW5 : Acc w W5 := by
                                          refine Acc.call ?_ hb
                                          (repeat' (first | (with_reducible first | assumption | exact Acc.refl _ | refine Acc.alloc ?_ _ | refine Acc.setCell ?_ ?_ _) | (refine leB ?_; omega)))
                                        clear hb
                                        go_wp2_with fail
                                        all_goals
                                          go_ret
                                          refine ⟨by first | rfl | (simp [*]; done) | (simp [go_sem, *]; done), ?_⟩
                                          show Acc w _
                                          (repeat' (first | (with_reducible first | assumption | exact Acc.refl _ | refine Acc.alloc ?_ _ | refine Acc.setCell ?_ ?_ _) | (refine leB ?_; omega)))
                                    · skip
                                      rw [rounds_succ]
                                      go_wp2_with fail
                                      rw [rounds_succ]
                                      go_wp2_with fail
                                      rw [rounds_succ]
                                      go_wp2_with fail
                                      refine (valid_at HS.out (implJAlike_any a1 a2 a3 b1 b2 b3 x1 x2 x3 y1 y2 y3 ha1 ha2 ha3 hb1 hb2 hb3 hx1 hx2 hx3 hy1 hy2 hy3 _ (HL.out _ (by repeat' (first | (with_reducible first | assumption | exact Acc.refl _ | refine Acc.alloc ?_ _ | refine Acc.setCell ?_ ?_ _) | (refine leB ?_; omega)))))).mono ?_
                                      rintro e W5 ⟨rfl, hb⟩
                                      obtain ⟨Ba, Bb, Bx, By⟩ : Blk W5 (W0.heap.size) [.int .i64 x1, .int .i64 x2, .int .i64 x3, .int .i64 y1, .int .i64 y2, .int .i64 y3] ∧ Blk W5 (W0.heap.size + 1) [.int .i64 a1, .int .i64 a2, .int .i64 a3, .int .i64 b1, .int .i64 b2, .int .i64 b3] ∧ Blk W5 (W3.heap.size) [.int .i64 s1, .int .i64 s2, .int .i64 s3, .int .i64 t1, .int .i64 t2, .int .i64 t3, .int .i64 u1, .int .i64 u2, .int .i64 u3, .int .i64 v1, .int .i64 v2, .int .i64 v3] ∧ Blk W5 (W4.heap.size) [.int .i64 w1, .int .i64 w2, .int .i64 w3, .int .i64 z1, .int .i64 z2, .int .i64 z3, .int .i64 m1, .int .i64 m2, .int .i64 m3, .int .i64 n1, .int .i64 n2, .int .i64 n3] := by
                                        refine ⟨?_, ?_, ?_, ?_⟩ <;> refine Blk.keep hb ?_ <;> (repeat' (first | (with_reducible first | assumption | apply Blk.set | (refine Blk.new ?_; focus (first | rfl | (simp; done))) | refine Blk.alloc ?_ _ | refine Blk.other ?_ ?_ _) | exact eqL rfl | (refine neB ?_; omega)))
                                      have ca := Ba.cell
                                      have fa := Ba.free
                                      have la_W5 := Ba.lt
                                      have cb := Bb.cell
                                      have fb := Bb.free
                                      have lb_W5 := Bb.lt
                                      have cx := Bx.cell
                                      have fx := Bx.free
                                      have lx_W5 := Bx.lt
                                      have cy := By.cell
                                      have fy := By.free
                                      have ly_W5 := By.lt
                                      have kaW5 : Acc w W5 := by
                                        refine Acc.call ?_ hb
                                        (repeat' (first | (with_reducible first | assumption | exact Acc.refl _ | refine Acc.alloc ?_ _ | refine Acc.setCell ?_ ?_ _) | (refine leB ?_; omega)))
                                      clear hb
                                      go_wp2_with fail
                                      all_goals
                                        go_ret
                                        refine ⟨by first | rfl | (simp [*]; done) | (simp [go_sem, *]; done), ?_⟩
                                        show Acc w _
                                        (repeat' (first | (with_reducible first | assumption | exact Acc.refl _ | refine Acc.alloc ?_ _ | refine Acc.setCell ?_ ?_ _) | (refine leB ?_; omega)))
                                  · skip
                                    rw [rounds_succ]
                                    go_wp2_with fail
                                    rw [rounds_succ]
                                    go_wp2_with fail
                                    rw [rounds_succ]
                                    go_wp2_with fail
                                    refine (valid_at HS.out (implJAlike_any a1 a2 a3 b1 b2 b3 x1 x2 x3 y1 y2 y3 ha1 ha2 ha3 hb1 hb2 hb3 hx1 hx2 hx3 hy1 hy2 hy3 _ (HL.out _ (by repeat' (first | (with_reducible first | assumption | exact Acc.refl _ | refine Acc.alloc ?_ _ | refine Acc.setCell ?_ ?_ _) | (refine leB ?_; omega)))))).mono ?_
                                    rintro e W5 ⟨rfl, hb⟩
                                    obtain ⟨Ba, Bb, Bx, By⟩ : Blk W5 (W0.heap.size) [.int .i64 x1, .int .i64 x2, .int .i64 x3, .int .i64 y1, .int .i64 y2, .int .i64 y3] ∧ Blk W5 (W0.heap.size + 1) [.int .i64 a1, .int .i64 a2, .int .i64 a3, .int .i64 b1, .int .i64 b2, .int .i64 b3] ∧ Blk W5 (W3.heap.size) [.int .i64 s1, .int .i64 s2, .int .i64 s3, .int .i64 t1, .int .i64 t2, .int .i64 t3, .int .i64 u1, .int .i64 u2, .int .i64 u3, .int .i64 v1, .int .i64 v2, .int .i64 v3] ∧ Blk W5 (W4.heap.size) [.int .i64 w1, .int .i64 w2, .int .i64 w3, .int .i64 z1, .int .i64 z2, .int .i64 z3, .int .i64 m1, .int .i64 m2, .int .i64 m3, .int .i64 n1, .int .i64 n2, .int .i64 n3] := by
                                      refine ⟨?_, ?_, ?_, ?_⟩ <;> refine Blk.keep hb ?_ <;> (repeat' (first | (with_reducible first | assumption | apply Blk.set | (refine Blk.new ?_; focus (first | rfl | (simp; done))) | refine Blk.alloc ?_ _ | refine Blk.other ?_ ?_ _) | exact eqL rfl | (refine neB ?_; omega)))
                                    have ca := Ba.cell
                                    have fa := Ba.free
                                    have la_W5 := Ba.lt
                                    have cb := Bb.cell
                                    have fb := Bb.free
                                    have lb_W5 := Bb.lt
                                    have cx := Bx.cell
                                    have fx := Bx.free
                                    have lx_W5 := Bx.lt
                                    have cy := By.cell
                                    have fy := By.free
                                    have ly_W5 := By.lt
                                    have kaW5 : Acc w W5 := by
                                      refine Acc.call ?_ hb
                                      (repeat' (first | (with_reducible first | assumption | exact Acc.refl _ | refine Acc.alloc ?_ _ | refine Acc.setCell ?_ ?_ _) | (refine leB ?_; omega)))
                                    clear hb
                                    go_wp2_with fail
                                    all_goals
                                      go_ret
                                      refine ⟨by first | rfl | (simp [*]; done) | (simp [go_sem, *]; done), ?_⟩
                                      show Acc w _
                                      (repeat' (first | (with_reducible first | assumption | exact Acc.refl _ | refine Acc.alloc ?_ _ | refine Acc.setCell ?_ ?_ _) | (refine leB ?_; omega)))
                                · skip
                                  rw [rounds_succ]
                                  go_wp2_with fail
                                  rw [rounds_succ]
                                  go_wp2_with fail
                                  rw [rounds_succ]
                                  go_wp2_with fail
                                  refine (valid_at HS.out (implJAlike_any a1 a2 a3 b1 b2 b3 x1 x2 x3 y1 y2 y3 ha1 ha2 ha3 hb1 hb2 hb3 hx1 hx2 hx3 hy1 hy2 hy3 _ (HL.out _ (by repeat' (first | (with_reducible first | assumption | exact Acc.refl _ | refine Acc.alloc ?_ _ | refine Acc.setCell ?_ ?_ _) | (refine leB ?_; omega)))))).mono ?_
                                  rintro e W5 ⟨rfl, hb⟩
                                  obtain ⟨Ba, Bb, Bx, By⟩ : Blk W5 (W0.heap.size) [.int .i64 x1, .int .i64 x2, .int .i64 x3, .int .i64 y1, .int .i64 y2, .int .i64 y3] ∧ Blk W5 (W0.heap.size + 1) [.int .i64 a1, .int .i64 a2, .int .i64 a3, .int .i64 b1, .int .i64 b2, .int .i64 b3] ∧ Blk W5 (W3.heap.size) [.int .i64 s1, .int .i64 s2, .int .i64 s3, .int .i64 t1, .int .i64 t2, .int .i64 t3, .int .i64 u1, .int .i64 u2, .int .i64 u3, .int .i64 v1, .int .i64 v2, .int .i64 v3] ∧ Blk W5 (W4.heap.size) [.int .i64 w1, .int .i64 w2, .int .i64 w3, .int .i64 z1, .int .i64 z2, .int .i64 z3, .int .i64 m1, .int .i64 m2, .int .i64 m3, .int .i64 n1, .int .i64 n2, .int .i64 n3] := by
                                    refine ⟨?_, ?_, ?_, ?_⟩ <;> refine Blk.keep hb ?_ <;> (repeat' (first | (with_reducible first | assumption | apply Blk.set | (refine Blk.new ?_; focus (first | rfl | (simp; done))) | refine Blk.alloc ?_ _ | refine Blk.other ?_ ?_ _) | exact eqL rfl | (refine neB ?_; omega)))
                                  have ca := Ba.cell
                                  have fa := Ba.free
                                  have la_W5 := Ba.lt
                                  have cb := Bb.cell
                                  have fb := Bb.free
                                  have lb_W5 := Bb.lt
                                  have cx := Bx.cell
                                  have fx := Bx.free
                                  have lx_W5 := Bx.lt
                                  have cy := By.cell
                                  have fy := By.free
                                  have ly_W5 := By.lt
                                  have kaW5 : Acc w W5 := by
                                    refine Acc.call ?_ hb
                                    (repeat' (first | (with_reducible first | assumption | exact Acc.refl _ | refine Acc.alloc ?_ _ | refine Acc.setCell ?_ ?_ _) | (refine leB ?_; omega)))
                                  clear hb
                                  go_wp2_with fail
                                  all_goals
                                    go_ret
                                    refine ⟨by first | rfl | (simp [*]; done) | (simp [go_sem, *]; done), ?_⟩
                                    show Acc w _
                                    (repeat' (first | (with_reducible first | assumption | exact Acc.refl _ | refine Acc.alloc ?_ _ | refine Acc.setCell ?_ ?_ _) | (refine leB ?_; omega)))
                              · skip
                                rw [rounds_succ]
                                go_wp2_with fail
                                rw [rounds_succ]
                                go_wp2_with fail
                                rw [rounds_succ]
                                go_wp2_with fail
                                refine (valid_at HS.out (implJAlike_any a1 a2 a3 b1 b2 b3 x1 x2 x3 y1 y2 y3 ha1 ha2 ha3 hb1 hb2 hb3 hx1 hx2 hx3 hy1 hy2 hy3 _ (HL.out _ (by repeat' (first | (with_reducible first | assumption | exact Acc.refl _ | refine Acc.alloc ?_ _ | refine Acc.setCell ?_ ?_ _) | (refine leB ?_; omega)))))).mono ?_
                                rintro e W5 ⟨rfl, hb⟩
                                obtain ⟨Ba, Bb, Bx, By⟩ : Blk W5 (W0.heap.size) [.int .i64 x1, .int .i64 x2, .int .i64 x3, .int .i64 y1, .int .i64 y2, .int .i64 y3] ∧ Blk W5 (W0.heap.size + 1) [.int .i64 a1, .int .i64 a2, .int .i64 a3, .int .i64 b1, .int .i64 b2, .int .i64 b3] ∧ Blk W5 (W3.heap.size) [.int .i64 s1, .int .i64 s2, .int .i64 s3, .int .i64 t1, .int .i64 t2, .int .i64 t3, .int .i64 u1, .int .i64 u2, .int .i64 u3, .int .i64 v1, .int .i64 v2, .int .i64 v3] ∧ Blk W5 (W4.heap.size) [.int .i64 w1, .int .i64 w2, .int .i64 w3, .int .i64 z1, .int .i64 z2, .int .i64 z3, .int .i64 m1, .int .i64 m2, .int .i64 m3, .int .i64 n1, .int .i64 n2, .int .i64 n3] := by
                                  refine ⟨?_, ?_, ?_, ?_⟩ <;> refine Blk.keep hb ?_ <;> (repeat' (first | (with_reducible first | assumption | apply Blk.set | (refine Blk.new ?_; focus (first | rfl | (simp; done))) | refine Blk.alloc ?_ _ | refine Blk.other ?_ ?_ _) | exact eqL rfl | (refine neB ?_; omega)))
                                have ca := Ba.cell
                                have fa := Ba.free
                                have la_W5 := Ba.lt
                                have cb := Bb.cell
                                have fb := Bb.free
                                have lb_W5 := Bb.lt
                                have cx := Bx.cell
                                have fx := Bx.free
                                have lx_W5 := Bx.lt
                                have cy := By.cell
                                have fy := By.free
                                have ly_W5 := By.lt
                                have kaW5 : Acc w W5 := by
                                  refine Acc.call ?_ hb
                                  (repeat' (first | (with_reducible first | assumption | exact Acc.refl _ | refine Acc.alloc ?_ _ | refine Acc.setCell ?_ ?_ _) | (refine leB ?_; omega)))
                                clear hb
                                go_wp2_with fail
                                all_goals
                                  go_ret
                                  refine ⟨by first | rfl | (simp [*]; done) | (simp [go_sem, *]; done), ?_⟩
                                  show Acc w _
                                  (repeat' (first | (with_reducible first | assumption | exact Acc.refl _ | refine Acc.alloc ?_ _ | refine Acc.setCell ?_ ?_ _) | (refine leB ?_; omega)))
                            · skip
                              rw [rounds_succ]
                              go_wp2_with fail
                              rw [rounds_succ]
                              go_wp2_with fail
                              rw [rounds_succ]
                              go_wp2_with fail
                              rw [rounds_succ]
                              go_wp2_with fail
                              refine (valid_at HS.out (implJAlike_any a1 a2 a3 b1 b2 b3 x1 x2 x3 y1 y2 y3 ha1 ha2 ha3 hb1 hb2 hb3 hx1 hx2 hx3 hy1 hy2 hy3 _ (HL.out _ (by repeat' (first | (with_reducible first | assumption | exact Acc.refl _ | refine Acc.alloc ?_ _ | refine Acc.setCell ?_ ?_ _) | (refine leB ?_; omega)))))).mono ?_
                              rintro e W5 ⟨rfl, hb⟩
                              obtain ⟨Ba, Bb, Bx, By⟩ : Blk W5 (W0.heap.size) [.int .i64 x1, .int .i64 x2, .int .i64 x3, .int .i64 y1, .int .i64 y2, .int .i64 y3] ∧ Blk W5 (W0.heap.size + 1) [.int .i64 a1, .int .i64 a2, .int .i64 a3, .int .i64 b1, .int .i64 b2, .int .i64 b3] ∧ Blk W5 (W3.heap.size) [.int .i64 s1, .int .i64 s2, .int .i64 s3, .int .i64 t1, .int .i64 t2, .int .i64 t3, .int .i64 u1, .int .i64 u2, .int .i64 u3, .int .i64 v1, .int .i64 v2, .int .i64 v3] ∧ Blk W5 (W4.heap.size) [.int .i64 w1, .int .i64 w2, .int .i64 w3, .int .i64 z1, .int .i64 z2, .int .i64 z3, .int .i64 m1, .int .i64 m2, .int .i64 m3, .int .i64 n1, .int .i64 n2, .int .i64 n3] := by
                                refine ⟨?_, ?_, ?_, ?_⟩ <;> refine Blk.keep hb ?_ <;> (repeat' (first | (with_reducible first | assumption | apply Blk.set | (refine Blk.new ?_; focus (first | rfl | (simp; done))) | refine Blk.alloc ?_ _ | refine Blk.other ?_ ?_ _) | exact eqL rfl | (refine neB ?_; omega)))
                              have ca := Ba.cell
                              have fa := Ba.free
                              have la_W5 := Ba.lt
                              have cb := Bb.cell
                              have fb := Bb.free
                              have lb_W5 := Bb.lt
                              have cx := Bx.cell
                              have fx := Bx.free
                              have lx_W5 := Bx.lt
                              have cy := By.cell
                              have fy := By.free
                              have ly_W5 := By.lt
                              have kaW5 : Acc w W5 := by
                                refine Acc.call ?_ hb
                                (repeat' (first | (with_reducible first | assumption | exact Acc.refl _ | refine Acc.alloc ?_ _ | refine Acc.setCell ?_ ?_ _) | (refine leB ?_; omega)))
                              clear hb
                              go_wp2_with fail
                              all_goals
                                go_ret
                                refine ⟨by first | rfl | (simp [*]; done) | (simp [go_sem, *]; done), ?_⟩
                                show Acc w _
                                (repeat' (first | (with_reducible first | assumption | exact Acc.refl _ | refine Acc.alloc ?_ _ | refine Acc.setCell ?_ ?_ _) | (refine leB ?_; omega)))
                          · skip
                            rw [rounds_succ]
                            go_wp2_with fail
                            rw [rounds_succ]
                            go_wp2_with fail
                            rw [rounds_succ]
                            go_wp2_with fail
                            rw [rounds_succ]
                            go_wp2_with fail
                            refine (valid_at HS.out (implJAlike_any a1 a2 a3 b1 b2 b3 x1 x2 x3 y1 y2 y3 ha1 ha2 ha3 hb1 hb2 hb3 hx1 hx2 hx3 hy1 hy2 hy3 _ (HL.out _ (by repeat' (first | (with_reducible first | assumption | exact Acc.refl _ | refine Acc.alloc ?_ _ | refine Acc.setCell ?_ ?_ _) | (refine leB ?_; omega)))))).mono ?_
                            rintro e W5 ⟨rfl, hb⟩
                            obtain ⟨Ba, Bb, Bx, By⟩ : Blk W5 (W0.heap.size) [.int .i64 x1, .int .i64 x2, .int .i64 x3, .int .i64 y1, .int .i64 y2, .int .i64 y3] ∧ Blk W5 (W0.heap.size + 1) [.int .i64 a1, .int .i64 a2, .int .i64 a3, .int .i64 b1, .int .i64 b2, .int .i64 b3] ∧ Blk W5 (W3.heap.size) [.int .i64 s1, .int .i64 s2, .int .i64 s3, .int .i64 t1, .int .i64 t2, .int .i64 t3, .int .i64 u1, .int .i64 u2, .int .i64 u3, .int .i64 v1, .int .i64 v2, .int .i64 v3] ∧ Blk W5 (W4.heap.size) [.int .i64 w1, .int .i64 w2, .int .i64 w3, .int .i64 z1, .int .i64 z2, .int .i64 z3, .int .i64 m1, .int .i64 m2, .int .i64 m3, .int .i64 n1, .int .i64 n2, .int .i64 n3] := by
                              refine ⟨?_, ?_, ?_, ?_⟩ <;> refine Blk.keep hb ?_ <;> (repeat' (first | (with_reducible first | assumption | apply Blk.set | (refine Blk.new ?_; focus (first | rfl | (simp; done))) | refine Blk.alloc ?_ _ | refine Blk.other ?_ ?_ _) | exact eqL rfl | (refine neB ?_; omega)))
                            have ca := Ba.cell
                            have fa := Ba.free
                            have la_W5 := Ba.lt
                            have cb := Bb.cell
                            have fb := Bb.free
                            have lb_W5 := Bb.lt
                            have cx := Bx.cell
                            have fx := Bx.free
                            have lx_W5 := Bx.lt
                            have cy := By.cell
                            have fy := By.free
                            have ly_W5 := By.lt
                            have kaW5 : Acc w W5 := by
                              refine Acc.call ?_ hb
                              (repeat' (first | (with_reducible first | assumption | exact Acc.refl _ | refine Acc.alloc ?_ _ | refine Acc.setCell ?_ ?_ _) | (refine leB ?_; omega)))
                            clear hb
                            go_wp2_with fail
                            all_goals
                              go_ret
                              refine ⟨by first | rfl | (simp [*]; done) | (simp [go_sem, *]; done), ?_⟩
                              show Acc w _
                              (repeat' (first | (with_reducible first | assumption | exact Acc.refl _ | refine Acc.alloc ?_ _ | refine Acc.setCell ?_ ?_ _) | (refine leB ?_; omega)))
                        · skip
                          rw [rounds_succ]
                          go_wp2_with fail
                          rw [rounds_succ]
                          go_wp2_with fail
                          rw [rounds_succ]
                          go_wp2_with fail
                          rw [rounds_succ]
                          go_wp2_with fail
                          refine (valid_at HS.out (implJAlike_any a1 a2 a3 b1 b2 b3 x1 x2 x3 y1 y2 y3 ha1 ha2 ha3 hb1 hb2 hb3 hx1 hx2 hx3 hy1 hy2 hy3 _ (HL.out _ (by repeat' (first | (with_reducible first | assumption | exact Acc.refl _ | refine Acc.alloc ?_ _ | refine Acc.setCell ?_ ?_ _) | (refine leB ?_; omega)))))).mono ?_
                          rintro e W5 ⟨rfl, hb⟩
                          obtain ⟨Ba, Bb, Bx, By⟩ : Blk W5 (W0.heap.size) [.int .i64 x1, .int .i64 x2, .int .i64 x3, .int .i64 y1, .int .i64 y2, .int .i64 y3] ∧ Blk W5 (W0.heap.size + 1) [.int .i64 a1, .int .i64 a2, .int .i64 a3, .int .i64 b1, .int .i64 b2, .int .i64 b3] ∧ Blk W5 (W3.heap.size) [.int .i64 s1, .int .i64 s2, .int .i64 s3, .int .i64 t1, .int .i64 t2, .int .i64 t3, .int .i64 u1, .int .i64 u2, .int .i64 u3, .int .i64 v1, .int .i64 v2, .int .i64 v3] ∧ Blk W5 (W4.heap.size) [.int .i64 w1, .int .i64 w2, .int .i64 w3, .int .i64 z1, .int .i64 z2, .int .i64 z3, .int .i64 m1, .int .i64 m2, .int .i64 m3, .int .i64 n1, .int .i64 n2, .int .i64 n3] := by
                            refine ⟨?_, ?_, ?_, ?_⟩ <;> refine Blk.keep hb ?_ <;> (repeat' (first | (with_reducible first | assumption | apply Blk.set | (refine Blk.new ?_; focus (first | rfl | (simp; done))) | refine Blk.alloc ?_ _ | refine Blk.other ?_ ?_ _) | exact eqL rfl | (refine neB ?_; omega)))
                          have ca := Ba.cell
                          have fa := Ba.free
                          have la_W5 := Ba.lt
                          have cb := Bb.cell
                          have fb := Bb.free
                          have lb_W5 := Bb.lt
                          have cx := Bx.cell
                          have fx := Bx.free
                          have lx_W5 := Bx.lt
                          have cy := By.cell
                          have fy := By.free
                          have ly_W5 := By.lt
                          have kaW5 : Acc w W5 := by
                            refine Acc.call ?_ hb
                            (repeat' (first | (with_reducible first | assumption | exact Acc.refl _ | refine Acc.alloc ?_ _ | refine Acc.setCell ?_ ?_ _) | (refine leB ?_; omega)))
                          clear hb
                          go_wp2_with fail
                          all_goals
                            go_ret
                            refine ⟨by first | rfl | (simp [*]; done) | (simp [go_sem, *]; done), ?_⟩
                            show Acc w _
                            (repeat' (first | (with_reducible first | assumption | exact Acc.refl _ | refine Acc.alloc ?_ _ | refine Acc.setCell ?_ ?_ _) | (refine leB ?_; omega)))
                      · skip
                        rw [rounds_succ]
                        go_wp2_with fail
                        rw [rounds_succ]
                        go_wp2_with fail
                        rw [rounds_succ]
                        go_wp2_with fail
                        rw [rounds_succ]
                        go_wp2_with fail
                        refine (valid_at HS.out (implJAlike_any a1 a2 a3 b1 b2 b3 x1 x2 x3 y1 y2 y3 ha1 ha2 ha3 hb1 hb2 hb3 hx1 hx2 hx3 hy1 hy2 hy3 _ (HL.out _ (by repeat' (first | (with_reducible first | assumption | exact Acc.refl _ | refine Acc.alloc ?_ _ | refine Acc.setCell ?_ ?_ _) | (refine leB ?_; omega)))))).mono ?_
                        rintro e W5 ⟨rfl, hb⟩
                        obtain ⟨Ba, Bb, Bx, By⟩ : Blk W5 (W0.heap.size) [.int .i64 x1, .int .i64 x2, .int .i64 x3, .int .i64 y1, .int .i64 y2, .int .i64 y3] ∧ Blk W5 (W0.heap.size + 1) [.int .i64 a1, .int .i64 a2, .int .i64 a3, .int .i64 b1, .int .i64 b2, .int .i64 b3] ∧ Blk W5 (W3.heap.size) [.int .i64 s1, .int .i64 s2, .int .i64 s3, .int .i64 t1, .int .i64 t2, .int .i64 t3, .int .i64 u1, .int .i64 u2, .int .i64 u3, .int .i64 v1, .int .i64 v2, .int .i64 v3] ∧ Blk W5 (W4.heap.size) [.int .i64 w1, .int .i64 w2, .int .i64 w3, .int .i64 z1, .int .i64 z2, .int .i64 z3, .int .i64 m1, .int .i64 m2, .int .i64 m3, .int .i64 n1, .int .i64 n2, .int .i64 n3] := by
                          refine ⟨?_, ?_, ?_, ?_⟩ <;> refine Blk.keep hb ?_ <;> (repeat' (first | (with_reducible first | assumption | apply Blk.set | (refine Blk.new ?_; focus (first | rfl | (simp; done))) | refine Blk.alloc ?_ _ | refine Blk.other ?_ ?_ _) | exact eqL rfl | (refine neB ?_; omega)))
                        have ca := Ba.cell
                        have fa := Ba.free
                        have la_W5 := Ba.lt
                        have cb := Bb.cell
                        have fb := Bb.free
                        have lb_W5 := Bb.lt
                        have cx := Bx.cell
                        have fx := Bx.free
                        have lx_W5 := Bx.lt
                        have cy := By.cell
                        have fy := By.free
                        have ly_W5 := By.lt
                        have kaW5 : Acc w W5 := by
                          refine Acc.call ?_ hb
                          (repeat' (first | (with_reducible first | assumption | exact Acc.refl _ | refine Acc.alloc ?_ _ | refine Acc.setCell ?_ ?_ _) | (refine leB ?_; omega)))
                        clear hb
                        go_wp2_with fail
                        all_goals
                          go_ret
                          refine ⟨by first | rfl | (simp [*]; done) | (simp [go_sem, *]; done), ?_⟩
                          show Acc w _
                          (repeat' (first | (with_reducible first | assumption | exact Acc.refl _ | refine Acc.alloc ?_ _ | refine Acc.setCell ?_ ?_ _) | (refine leB ?_; omega)))
                    · skip
                      rw [rounds_succ]
                      go_wp2_with fail
                      rw [rounds_succ]
                      go_wp2_with fail
                      rw [rounds_succ]
                      go_wp2_with fail
                      rw [rounds_succ]
                      go_wp2_with fail
                      refine (valid_at HS.out (implJAlike_any a1 a2 a3 b1 b2 b3 x1 x2 x3 y1 y2 y3 ha1 ha2 ha3 hb1 hb2 hb3 hx1 hx2 hx3 hy1 hy2 hy3 _ (HL.out _ (by repeat' (first | (with_reducible first | assumption | exact Acc.refl _ | refine Acc.alloc ?_ _ | refine Acc.setCell ?_ ?_ _) | (refine leB ?_; omega)))))).mono ?_
                      rintro e W5 ⟨rfl, hb⟩
                      obtain ⟨Ba, Bb, Bx, By⟩ : Blk W5 (W0.heap.size) [.int .i64 x1, .int .i64 x2, .int .i64 x3, .int .i64 y1, .int .i64 y2, .int .i64 y3] ∧ Blk W5 (W0.heap.size + 1) [.int .i64 a1, .int .i64 a2, .int .i64 a3, .int .i64 b1, .int .i64 b2, .int .i64 b3] ∧ Blk W5 (W3.heap.size) [.int .i64 s1, .int .i64 s2, .int .i64 s3, .int .i64 t1, .int .i64 t2, .int .i64 t3, .int .i64 u1, .int .i64 u2, .int .i64 u3, .int .i64 v1, .int .i64 v2, .int .i64 v3] ∧ Blk W5 (W4.heap.size) [.int .i64 w1, .int .i64 w2, .int .i64 w3, .int .i64 z1, .int .i64 z2, .int .i64 z3, .int .i64 m1, .int .i64 m2, .int .i64 m3, .int .i64 n1, .int .i64 n2, .int .i64 n3] := by
                        refine ⟨?_, ?_, ?_, ?_⟩ <;> refine Blk.keep hb ?_ <;> (repeat' (first | (with_reducible first | assumption | apply Blk.set | (refine Blk.new ?_; focus (first | rfl | (simp; done))) | refine Blk.alloc ?_ _ | refine Blk.other ?_ ?_ _) | exact eqL rfl | (refine neB ?_; omega)))
                      have ca := Ba.cell
                      have fa := Ba.free
                      have la_W5 := Ba.lt
                      have cb := Bb.cell
                      have fb := Bb.free
                      have lb_W5 := Bb.lt
                      have cx := Bx.cell
                      have fx := Bx.free
                      have lx_W5 := Bx.lt
                      have cy := By.cell
                      have fy := By.free
                      have ly_W5 := By.lt
                      have kaW5 : Acc w W5 := by
                        refine Acc.call ?_ hb
                        (repeat' (first | (with_reducible first | assumption | exact Acc.refl _ | refine Acc.alloc ?_ _ | refine Acc.setCell ?_ ?_ _) | (refine leB ?_; omega)))
                      clear hb
                      go_wp2_with fail
                      all_goals
                        go_ret
                        refine ⟨by first | rfl | (simp [*]; done) | (simp [go_sem, *]; done), ?_⟩
                        show Acc w _
                        (repeat' (first | (with_reducible first | assumption | exact Acc.refl _ | refine Acc.alloc ?_ _ | refine Acc.setCell ?_ ?_ _) | (refine leB ?_; omega)))
                  · skip
                    rw [rounds_succ]
                    go_wp2_with fail
                    rw [rounds_succ]
                    go_wp2_with fail
                    rw [rounds_succ]
                    go_wp2_with fail
                    rw [rounds_succ]
                    go_wp2_with fail
                    refine (valid_at HS.out (implJAlike_any a1 a2 a3 b1 b2 b3 x1 x2 x3 y1 y2 y3 ha1 ha2 ha3 hb1 hb2 hb3 hx1 hx2 hx3 hy1 hy2 hy3 _ (HL.out _ (by repeat' (first | (with_reducible first | assumption | exact Acc.refl _ | refine Acc.alloc ?_ _ | refine Acc.setCell ?_ ?_ _) | (refine leB ?_; omega)))))).mono ?_
                    rintro e W5 ⟨rfl, hb⟩
                    obtain ⟨Ba, Bb, Bx, By⟩ : Blk W5 (W0.heap.size) [.int .i64 x1, .int .i64 x2, .int .i64 x3, .int .i64 y1, .int .i64 y2, .int .i64 y3] ∧ Blk W5 (W0.heap.size + 1) [.int .i64 a1, .int .i64 a2, .int .i64 a3, .int .i64 b1, .int .i64 b2, .int .i64 b3] ∧ Blk W5 (W3.heap.size) [.int .i64 s1, .int .i64 s2, .int .i64 s3, .int .i64 t1, .int .i64 t2, .int .i64 t3, .int .i64 u1, .int .i64 u2, .int .i64 u3, .int .i64 v1, .int .i64 v2, .int .i64 v3] ∧ Blk W5 (W4.heap.size) [.int .i64 w1, .int .i64 w2, .int .i64 w3, .int .i64 z1, .int .i64 z2, .int .i64 z3, .int .i64 m1, .int .i64 m2, .int .i64 m3, .int .i64 n1, .int .i64 n2, .int .i64 n3] := by
                      refine ⟨?_, ?_, ?_, ?_⟩ <;> refine Blk.keep hb ?_ <;> (repeat' (first | (with_reducible first | assumption | apply Blk.set | (refine Blk.new ?_; focus (first | rfl | (simp; done))) | refine Blk.alloc ?_ _ | refine Blk.other ?_ ?_ _) | exact eqL rfl | (refine neB ?_; omega)))
                    have ca := Ba.cell
                    have fa := Ba.free
                    have la_W5 := Ba.lt
                    have cb := Bb.cell
                    have fb := Bb.free
                    have lb_W5 := Bb.lt
                    have cx := Bx.cell
                    have fx := Bx.free
                    have lx_W5 := Bx.lt
                    have cy := By.cell
                    have fy := By.free
                    have ly_W5 := By.lt
                    have kaW5 : Acc w W5 := by
                      refine Acc.call ?_ hb
                      (repeat' (first | (with_reducible first | assumption | exact Acc.refl _ | refine Acc.alloc ?_ _ | refine Acc.setCell ?_ ?_ _) | (refine leB ?_; omega)))
                    clear hb
                    go_wp2_with fail
                    all_goals
                      go_ret
                      refine ⟨by first | rfl | (simp [*]; done) | (simp [go_sem, *]; done), ?_⟩
                      show Acc w _
                      (repeat' (first | (with_reducible first | assumption | exact Acc.refl _ | refine Acc.alloc ?_ _ | refine Acc.setCell ?_ ?_ _) | (refine leB ?_; omega)))
                · skip
                  rw [rounds_succ]
                  go_wp2_with fail
                  rw [rounds_succ]
                  go_wp2_with fail
                  rw [rounds_succ]
                  go_wp2_with fail
                  rw [rounds_succ]
                  go_wp2_with fail
                  rw [rounds_succ]
                  go_wp2_with fail
                  refine (valid_at HS.out (implJAlike_any a1 a2 a3 b1 b2 b3 x1 x2 x3 y1 y2 y3 ha1 ha2 ha3 hb1 hb2 hb3 hx1 hx2 hx3 hy1 hy2 hy3 _ (HL.out _ (by repeat' (first | (with_reducible first | assumption | exact Acc.refl _ | refine Acc.alloc ?_ _ | refine Acc.setCell ?_ ?_ _) | (refine leB ?_; omega)))))).mono ?_
                  rintro e W5 ⟨rfl, hb⟩
                  obtain ⟨Ba, Bb, Bx, By⟩ : Blk W5 (W0.heap.size) [.int .i64 x1, .int .i64 x2, .int .i64 x3, .int .i64 y1, .int .i64 y2, .int .i64 y3] ∧ Blk W5 (W0.heap.size + 1) [.int .i64 a1, .int .i64 a2, .int .i64 a3, .int .i64 b1, .int .i64 b2, .int .i64 b3] ∧ Blk W5 (W3.heap.size) [.int .i64 s1, .int .i64 s2, .int .i64 s3, .int .i64 t1, .int .i64 t2, .int .i64 t3, .int .i64 u1, .int .i64 u2, .int .i64 u3, .int .i64 v1, .int .i64 v2, .int .i64 v3] ∧ Blk W5 (W4.heap.size) [.int .i64 w1, .int .i64 w2, .int .i64 w3, .int .i64 z1, .int .i64 z2, .int .i64 z3, .int .i64 m1, .int .i64 m2, .int .i64 m3, .int .i64 n1, .int .i64 n2, .int .i64 n3] := by
                    refine ⟨?_, ?_, ?_, ?_⟩ <;> refine Blk.keep hb ?_ <;> (repeat' (first | (with_reducible first | assumption | apply Blk.set | (refine Blk.new ?_; focus (first | rfl | (simp; done))) | refine Blk.alloc ?_ _ | refine Blk.other ?_ ?_ _) | exact eqL rfl | (refine neB ?_; omega)))
                  have ca := Ba.cell
                  have fa := Ba.free
                  have la_W5 := Ba.lt
                  have cb := Bb.cell
                  have fb := Bb.free
                  have lb_W5 := Bb.lt
                  have cx := Bx.cell
                  have fx := Bx.free
                  have lx_W5 := Bx.lt
                  have cy := By.cell
                  have fy := By.free
                  have ly_W5 := By.lt
                  have kaW5 : Acc w W5 := by
                    refine Acc.call ?_ hb
                    (repeat' (first | (with_reducible first | assumption | exact Acc.refl _ | refine Acc.alloc ?_ _ | refine Acc.setCell ?_ ?_ _) | (refine leB ?_; omega)))
                  clear hb
                  go_wp2_with fail
                  all_goals
                    go_ret
                    refine ⟨by first | rfl | (simp [*]; done) | (simp [go_sem, *]; done), ?_⟩
                    show Acc w _
                    (repeat' (first | (with_reducible first | assumption | exact Acc.refl _ | refine Acc.alloc ?_ _ | refine Acc.setCell ?_ ?_ _) | (refine leB ?_; omega)))
              · skip
                rw [rounds_succ]
                go_wp2_with fail
                rw [rounds_succ]
                go_wp2_with fail
                rw [rounds_succ]
                go_wp2_with fail
                rw [rounds_succ]
                go_wp2_with fail
                rw [rounds_succ]
                go_wp2_with fail
                refine (valid_at HS.out (implJAlike_any a1 a2 a3 b1 b2 b3 x1 x2 x3 y1 y2 y3 ha1 ha2 ha3 hb1 hb2 hb3 hx1 hx2 hx3 hy1 hy2 hy3 _ (HL.out _ (by repeat' (first | (with_reducible first | assumption | exact Acc.refl _ | refine Acc.alloc ?_ _ | refine Acc.setCell ?_ ?_ _) | (refine leB ?_; omega)))))).mono ?_
                rintro e W5 ⟨rfl, hb⟩
                obtain ⟨Ba, Bb, Bx, By⟩ : Blk W5 (W0.heap.size) [.int .i64 x1, .int .i64 x2, .int .i64 x3, .int .i64 y1, .int .i64 y2, .int .i64 y3] ∧ Blk W5 (W0.heap.size + 1) [.int .i64 a1, .int .i64 a2, .int .i64 a3, .int .i64 b1, .int .i64 b2, .int .i64 b3] ∧ Blk W5 (W3.heap.size) [.int .i64 s1, .int .i64 s2, .int .i64 s3, .int .i64 t1, .int .i64 t2, .int .i64 t3, .int .i64 u1, .int .i64 u2, .int .i64 u3, .int .i64 v1, .int .i64 v2, .int .i64 v3] ∧ Blk W5 (W4.heap.size) [.int .i64 w1, .int .i64 w2, .int .i64 w3, .int .i64 z1, .int .i64 z2, .int .i64 z3, .int .i64 m1, .int .i64 m2, .int .i64 m3, .int .i64 n1, .int .i64 n2, .int .i64 n3] := by
                  refine ⟨?_, ?_, ?_, ?_⟩ <;> refine Blk.keep hb ?_ <;> (repeat' (first | (with_reducible first | assumption | apply Blk.set | (refine Blk.new ?_; focus (first | rfl | (simp; done))) | refine Blk.alloc ?_ _ | refine Blk.other ?_ ?_ _) | exact eqL rfl | (refine neB ?_; omega)))
                have ca := Ba.cell
                have fa := Ba.free
                have la_W5 := Ba.lt
                have cb := Bb.cell
                have fb := Bb.free
                have lb_W5 := Bb.lt
                have cx := Bx.cell
                have fx := Bx.free
                have lx_W5 := Bx.lt
                have cy := By.cell
                have fy := By.free
                have ly_W5 := By.lt
                have kaW5 : Acc w W5 := by
                  refine Acc.call ?_ hb
                  (repeat' (first | (with_reducible first | assumption | exact Acc.refl _ | refine Acc.alloc ?_ _ | refine Acc.setCell ?_ ?_ _) | (refine leB ?_; omega)))
                clear hb
                go_wp2_with fail
                all_goals
                  go_ret
                  refine ⟨by first | rfl | (simp [*]; done) | (simp [go_sem, *]; done), ?_⟩
                  show Acc w _
                  (repeat' (first | (with_reducible first | assumption | exact Acc.refl _ | refine Acc.alloc ?_ _ | refine Acc.setCell ?_ ?_ _) | (refine leB ?_; omega)))
            · skip
              rw [rounds_succ]
              go_wp2_with fail
              rw [rounds_succ]
              go_wp2_with fail
              rw [rounds_succ]
              go_wp2_with fail
              rw [rounds_succ]
              go_wp2_with fail
              rw [rounds_succ]
              go_wp2_with fail
              refine (valid_at HS.out (implJAlike_any a1 a2 a3 b1 b2 b3 x1 x2 x3 y1 y2 y3 ha1 ha2 ha3 hb1 hb2 hb3 hx1 hx2 hx3 hy1 hy2 hy3 _ (HL.out _ (by repeat' (first | (with_reducible first | assumption | exact Acc.refl _ | refine Acc.alloc ?_ _ | refine Acc.setCell ?_ ?_ _) | (refine leB ?_; omega)))))).mono ?_
              rintro e W5 ⟨rfl, hb⟩
              obtain ⟨Ba, Bb, Bx, By⟩ : Blk W5 (W0.heap.size) [.int .i64 x1, .int .i64 x2, .int .i64 x3, .int .i64 y1, .int .i64 y2, .int .i64 y3] ∧ Blk W5 (W0.heap.size + 1) [.int .i64 a1, .int .i64 a2, .int .i64 a3, .int .i64 b1, .int .i64 b2, .int .i64 b3] ∧ Blk W5 (W3.heap.size) [.int .i64 s1, .int .i64 s2, .int .i64 s3, .int .i64 t1, .int .i64 t2, .int .i64 t3, .int .i64 u1, .int .i64 u2, .int .i64 u3, .int .i64 v1, .int .i64 v2, .int .i64 v3] ∧ Blk W5 (W4.heap.size) [.int .i64 w1, .int .i64 w2, .int .i64 w3, .int .i64 z1, .int .i64 z2, .int .i64 z3, .int .i64 m1, .int .i64 m2, .int .i64 m3, .int .i64 n1, .int .i64 n2, .int .i64 n3] := by
                refine ⟨?_, ?_, ?_, ?_⟩ <;> refine Blk.keep hb ?_ <;> (repeat' (first | (with_reducible first | assumption | apply Blk.set | (refine Blk.new ?_; focus (first | rfl | (simp; done))) | refine Blk.alloc ?_ _ | refine Blk.other ?_ ?_ _) | exact eqL rfl | (refine neB ?_; omega)))
              have ca := Ba.cell
              have fa := Ba.free
              have la_W5 := Ba.lt
              have cb := Bb.cell
              have fb := Bb.free
              have lb_W5 := Bb.lt
              have cx := Bx.cell
              have fx := Bx.free
              have lx_W5 := Bx.lt
              have cy := By.cell
              have fy := By.free
              have ly_W5 := By.lt
              have kaW5 : Acc w W5 := by
                refine Acc.call ?_ hb
                (repeat' (first | (with_reducible first | assumption | exact Acc.refl _ | refine Acc.alloc ?_ _ | refine Acc.setCell ?_ ?_ _) | (refine leB ?_; omega)))
              clear hb
              go_wp2_with fail
              all_goals
                go_ret
                refine ⟨by first | rfl | (simp [*]; done) | (simp [go_sem, *]; done), ?_⟩
                show Acc w _
                (repeat' (first | (with_reducible first | assumption | exact Acc.refl _ | refine Acc.alloc ?_ _ | refine Acc.setCell ?_ ?_ _) | (refine leB ?_; omega)))
          · skip
            rw [rounds_succ]
            go_wp2_with fail
            rw [rounds_succ]
            go_wp2_with fail
            rw [rounds_succ]
            go_wp2_with fail
            rw [rounds_succ]
            go_wp2_with fail
            rw [rounds_succ]
            go_wp2_with fail
            refine (valid_at HS.out (implJAlike_any a1 a2 a3 b1 b2 b3 x1 x2 x3 y1 y2 y3 ha1 ha2 ha3 hb1 hb2 hb3 hx1 hx2 hx3 hy1 hy2 hy3 _ (HL.out _ (by repeat' (first | (with_reducible first | assumption | exact Acc.refl _ | refine Acc.alloc ?_ _ | refine Acc.setCell ?_ ?_ _) | (refine leB ?_; omega)))))).mono ?_
            rintro e W5 ⟨rfl, hb⟩
            obtain ⟨Ba, Bb, Bx, By⟩ : Blk W5 (W0.heap.size) [.int .i64 x1, .int .i64 x2, .int .i64 x3, .int .i64 y1, .int .i64 y2, .int .i64 y3] ∧ Blk W5 (W0.heap.size + 1) [.int .i64 a1, .int .i64 a2, .int .i64 a3, .int .i64 b1, .int .i64 b2, .int .i64 b3] ∧ Blk W5 (W3.heap.size) [.int .i64 s1, .int .i64 s2, .int .i64 s3, .int .i64 t1, .int .i64 t2, .int .i64 t3, .int .i64 u1, .int .i64 u2, .int .i64 u3, .int .i64 v1, .int .i64 v2, .int .i64 v3] ∧ Blk W5 (W4.heap.size) [.int .i64 w1, .int .i64 w2, .int .i64 w3, .int .i64 z1, .int .i64 z2, .int .i64 z3, .int .i64 m1, .int .i64 m2, .int .i64 m3, .int .i64 n1, .int .i64 n2, .int .i64 n3] := by
              refine ⟨?_, ?_, ?_, ?_⟩ <;> refine Blk.keep hb ?_ <;> (repeat' (first | (with_reducible first | assumption | apply Blk.set | (refine Blk.new ?_; focus (first | rfl | (simp; done))) | refine Blk.alloc ?_ _ | refine Blk.other ?_ ?_ _) | exact eqL rfl | (refine neB ?_; omega)))
            have ca := Ba.cell
            have fa := Ba.free
            have la_W5 := Ba.lt
            have cb := Bb.cell
            have fb := Bb.free
            have lb_W5 := Bb.lt
            have cx := Bx.cell
            have fx := Bx.free
            have lx_W5 := Bx.lt
            have cy := By.cell
            have fy := By.free
            have ly_W5 := By.lt
            have kaW5 : Acc w W5 := by
              refine Acc.call ?_ hb
              (repeat' (first | (with_reducible first | assumption | exact Acc.refl _ | refine Acc.alloc ?_ _ | refine Acc.setCell ?_ ?_ _) | (refine leB ?_; omega)))
            clear hb
            go_wp2_with fail
            all_goals
              go_ret
              refine ⟨by first | rfl | (simp [*]; done) | (simp [go_sem, *]; done), ?_⟩
              show Acc w _
              (repeat' (first | (with_reducible first | assumption | exact Acc.refl _ | refine Acc.alloc ?_ _ | refine Acc.setCell ?_ ?_ _) | (refine leB ?_; omega)))
        · skip
          rw [rounds_succ]
          go_wp2_with fail
          rw [rounds_succ]
          go_wp2_with fail
          rw [rounds_succ]
          go_wp2_with fail
          rw [rounds_succ]
          go_wp2_with fail
          rw [rounds_succ]
          go_wp2_with fail
          refine (valid_at HS.out (implJAlike_any a1 a2 a3 b1 b2 b3 x1 x2 x3 y1 y2 y3 ha1 ha2 ha3 hb1 hb2 hb3 hx1 hx2 hx3 hy1 hy2 hy3 _ (HL.out _ (by repeat' (first | (with_reducible first | assumption | exact Acc.refl _ | refine Acc.alloc ?_ _ | refine Acc.setCell ?_ ?_ _) | (refine leB ?_; omega)))))).mono ?_
          rintro e W5 ⟨rfl, hb⟩
          obtain ⟨Ba, Bb, Bx, By⟩ : Blk W5 (W0.heap.size) [.int .i64 x1, .int .i64 x2, .int .i64 x3, .int .i64 y1, .int .i64 y2, .int .i64 y3] ∧ Blk W5 (W0.heap.size + 1) [.int .i64 a1, .int .i64 a2, .int .i64 a3, .int .i64 b1, .int .i64 b2, .int .i64 b3] ∧ Blk W5 (W3.heap.size) [.int .i64 s1, .int .i64 s2, .int .i64 s3, .int .i64 t1, .int .i64 t2, .int .i64 t3, .int .i64 u1, .int .i64 u2, .int .i64 u3, .int .i64 v1, .int .i64 v2, .int .i64 v3] ∧ Blk W5 (W4.heap.size) [.int .i64 w1, .int .i64 w2, .int .i64 w3, .int .i64 z1, .int .i64 z2, .int .i64 z3, .int .i64 m1, .int .i64 m2, .int .i64 m3, .int .i64 n1, .int .i64 n2, .int .i64 n3] := by
            refine ⟨?_, ?_, ?_, ?_⟩ <;> refine Blk.keep hb ?_ <;> (repeat' (first | (with_reducible first | assumption | apply Blk.set | (refine Blk.new ?_; focus (first | rfl | (simp; done))) | refine Blk.alloc ?_ _ | refine Blk.other ?_ ?_ _) | exact eqL rfl | (refine neB ?_; omega)))
          have ca := Ba.cell
          have fa := Ba.free
          have la_W5 := Ba.lt
          have cb := Bb.cell
          have fb := Bb.free
          have lb_W5 := Bb.lt
          have cx := Bx.cell
          have fx := Bx.free
          have lx_W5 := Bx.lt
          have cy := By.cell
          have fy := By.free
          have ly_W5 := By.lt
          have kaW5 : Acc w W5 := by
            refine Acc.call ?_ hb
            (repeat' (first | (with_reducible first | assumption | exact Acc.refl _ | refine Acc.alloc ?_ _ | refine Acc.setCell ?_ ?_ _) | (refine leB ?_; omega)))
          clear hb
          go_wp2_with fail
          all_goals
            go_ret
            refine ⟨by first | rfl | (simp [*]; done) | (simp [go_sem, *]; done), ?_⟩
            show Acc w _
            (repeat' (first | (with_reducible first | assumption | exact Acc.refl _ | refine Acc.alloc ?_ _ | refine Acc.setCell ?_ ?_ _) | (refine leB ?_; omega)))
      · skip
        rw [rounds_succ]
        go_wp2_with fail
        rw [rounds_succ]
        go_wp2_with fail
        rw [rounds_succ]
        go_wp2_with fail
        rw [rounds_succ]
        go_wp2_with fail
        rw [rounds_succ]
        go_wp2_with fail
        refine (valid_at HS.out (implJAlike_any a1 a2 a3 b1 b2 b3 x1 x2 x3 y1 y2 y3 ha1 ha2 ha3 hb1 hb2 hb3 hx1 hx2 hx3 hy1 hy2 hy3 _ (HL.out _ (by repeat' (first | (with_reducible first | assumption | exact Acc.refl _ | refine Acc.alloc ?_ _ | refine Acc.setCell ?_ ?_ _) | (refine leB ?_; omega)))))).mono ?_
        rintro e W5 ⟨rfl, hb⟩
        obtain ⟨Ba, Bb, Bx, By⟩ : Blk W5 (W0.heap.size) [.int .i64 x1, .int .i64 x2, .int .i64 x3, .int .i64 y1, .int .i64 y2, .int .i64 y3] ∧ Blk W5 (W0.heap.size + 1) [.int .i64 a1, .int .i64 a2, .int .i64 a3, .int .i64 b1, .int .i64 b2, .int .i64 b3] ∧ Blk W5 (W3.heap.size) [.int .i64 s1, .int .i64 s2, .int .i64 s3, .int .i64 t1, .int .i64 t2, .int .i64 t3, .int .i64 u1, .int .i64 u2, .int .i64 u3, .int .i64 v1, .int .i64 v2, .int .i64 v3] ∧ Blk W5 (W4.heap.size) [.int .i64 w1, .int .i64 w2, .int .i64 w3, .int .i64 z1, .int .i64 z2, .int .i64 z3, .int .i64 m1, .int .i64 m2, .int .i64 m3, .int .i64 n1, .int .i64 n2, .int .i64 n3] := by
          refine ⟨?_, ?_, ?_, ?_⟩ <;> refine Blk.keep hb ?_ <;> (repeat' (first | (with_reducible first | assumption | apply Blk.set | (refine Blk.new ?_; focus (first | rfl | (simp; done))) | refine Blk.alloc ?_ _ | refine Blk.other ?_ ?_ _) | exact eqL rfl | (refine neB ?_; omega)))
        have ca := Ba.cell
        have fa := Ba.free
        have la_W5 := Ba.lt
        have cb := Bb.cell
        have fb := Bb.free
        have lb_W5 := Bb.lt
        have cx := Bx.cell
        have fx := Bx.free
        have lx_W5 := Bx.lt
        have cy := By.cell
        have fy := By.free
        have ly_W5 := By.lt
        have kaW5 : Acc w W5 := by
          refine Acc.call ?_ hb
          (repeat' (first | (with_reducible first | assumption | exact Acc.refl _ | refine Acc.alloc ?_ _ | refine Acc.setCell ?_ ?_ _) | (refine leB ?_; omega)))
        clear hb
        go_wp2_with fail
        all_goals
          go_ret
          refine ⟨by first | rfl | (simp [*]; done) | (simp [go_sem, *]; done), ?_⟩
          show Acc w _
          (repeat' (first | (with_reducible first | assumption | exact Acc.refl _ | refine Acc.alloc ?_ _ | refine Acc.setCell ?_ ?_ _) | (refine leB ?_; omega)))
end Go.Proofs.YtedigdakgjaedabDoor
