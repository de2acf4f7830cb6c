/-
  The law of multiples of light.
-/
import Derived.Test.YtedigdakgjaedabDoorDrawStokes2
import Derived.Test.YtedigdakgjaedabDoorStokesMath5
import Derived.Test.YtedigdakgjaedabDoorBImplF
import Derived.Test.YtedigdakgjaedabDoorGave6
import Derived.Test.YtedigdakgjaedabDoorGave12
import Derived.Test.YtedigdakgjaedabDoorEqStokes
import Derived.Test.YtedigdakgjaedabDoorImplE1
import Derived.Test.YtedigdakgjaedabDoorImplE4
import Derived.Test.YtedigdakgjaedabDoorSpecS2
namespace Go.Proofs.YtedigdakgjaedabDoor
open Go.ChangeShapes Go.WideShapes Go.ChangeAt Go.RowKit
set_option linter.unusedVariables false

set_option maxRecDepth 100000 in
set_option maxHeartbeats 16000000 in
theorem fnStokesTimes_law (w : World) (hl : Laid w) (s : Option Addr) (len cap : Nat) (h : Code8 w s len cap) :
    Calls Tryd.prog 9 #[.slice s len cap] w (Fine w) := by
  have hm := h.2.1
  have hl' := h.1
  unfold maxLen at hm
  have HL := Lib.hid fun W (k : Acc w W) => hl.acc k
  clear hl
  by_cases hlen : 1048576 < len
  · clear h
    have hlen' : (1048576 : Int) < (len : Int) := by omega
    go_enter Tryd.func9, Tryd.ntmps9
    go_wp2_with fail
    go_ret
    exact ⟨rfl, Below.refl _ _⟩
  have hlen' : ¬ (1048576 : Int) < (len : Int) := by omega
  go_enter Tryd.func9, Tryd.ntmps9
  go_wp2_with fail
  refine (drawStokesTimes_any s len cap w h).mono ?_
  rintro e W0 ⟨a1, a2, a3, b1, b2, b3, c1, c2, c3, d1, d2, d3, q1, q2, q3, rfl, ⟨ha1, ha2, ha3, hb1, hb2, hb3, hc1, hc2, hc3, hd1, hd2, hd3⟩, ⟨hq1, hq2, hq3⟩, hb⟩
  have kaW0 : Acc w W0 := hb
  clear hb h
  go_wp2_with fail
  cases ho : stimesF a1 a2 a3 b1 b2 b3 c1 c2 c3 d1 d2 d3 q1 q2 q3 with
  | none =>
   have HO := Lib.hid ho
   clear ho
   have qst0 := eqStSame 0 0 0 0 0 0 0 0 0 0 0 0
   refine (gave12_none HO.out (implSTimes_any a1 a2 a3 b1 b2 b3 c1 c2 c3 d1 d2 d3 q1 q2 q3 ha1 ha2 ha3 hb1 hb2 hb3 hc1 hc2 hc3 hd1 hd2 hd3 hq1 hq2 hq3 _ (HL.out _ (by repeat' (first | (with_reducible first | assumption | exact Acc.refl _ | refine Acc.alloc ?_ _ | refine Acc.setCell ?_ ?_ _) | (refine leB ?_; omega)))))).mono ?_
   rintro e W1 ⟨rfl, hb⟩
   obtain ⟨Ba, Bc⟩ : Blk W1 (W0.heap.size) [.int .i64 a1, .int .i64 a2, .int .i64 a3, .int .i64 b1, .int .i64 b2, .int .i64 b3, .int .i64 c1, .int .i64 c2, .int .i64 c3, .int .i64 d1, .int .i64 d2, .int .i64 d3] ∧ Blk W1 (W0.heap.size + 1) [.int .i64 q1, .int .i64 q2, .int .i64 q3] := by
     refine ⟨?_, ?_⟩ <;> refine Blk.keep hb ?_ <;> (repeat' (first | (with_reducible first | assumption | apply Blk.set | (refine Blk.new ?_; focus (first | rfl | (simp; done))) | refine Blk.alloc ?_ _ | refine Blk.other ?_ ?_ _) | exact eqL rfl | (refine neB ?_; omega)))
   have ca := Ba.cell
   have fa := Ba.free
   have la_W1 := Ba.lt
   have cc := Bc.cell
   have fc := Bc.free
   have lc_W1 := Bc.lt
   have kaW1 : Acc w W1 := by
     refine Acc.call ?_ hb
     (repeat' (first | (with_reducible first | assumption | exact Acc.refl _ | refine Acc.alloc ?_ _ | refine Acc.setCell ?_ ?_ _) | (refine leB ?_; omega)))
   clear hb
   go_wp2_with fail
   refine (gave12_none HO.out (specSTimes_any a1 a2 a3 b1 b2 b3 c1 c2 c3 d1 d2 d3 q1 q2 q3 _)).mono ?_
   rintro e W2 ⟨rfl, hb⟩
   obtain ⟨Ba, Bc, Bo⟩ : Blk W2 (W0.heap.size) [.int .i64 a1, .int .i64 a2, .int .i64 a3, .int .i64 b1, .int .i64 b2, .int .i64 b3, .int .i64 c1, .int .i64 c2, .int .i64 c3, .int .i64 d1, .int .i64 d2, .int .i64 d3] ∧ Blk W2 (W0.heap.size + 1) [.int .i64 q1, .int .i64 q2, .int .i64 q3] ∧ Blk W2 (W1.heap.size) [.int .i64 0, .int .i64 0, .int .i64 0, .int .i64 0, .int .i64 0, .int .i64 0, .int .i64 0, .int .i64 0, .int .i64 0, .int .i64 0, .int .i64 0, .int .i64 0] := by
     refine ⟨?_, ?_, ?_⟩ <;> refine Blk.keep hb ?_ <;> (repeat' (first | (with_reducible first | assumption | apply Blk.set | (refine Blk.new ?_; focus (first | rfl | (simp; done))) | refine Blk.alloc ?_ _ | refine Blk.other ?_ ?_ _) | exact eqL rfl | (refine neB ?_; omega)))
   have ca := Ba.cell
   have fa := Ba.free
   have la_W2 := Ba.lt
   have cc := Bc.cell
   have fc := Bc.free
   have lc_W2 := Bc.lt
   have co := Bo.cell
   have fo := Bo.free
   have lo_W2 := Bo.lt
   have kaW2 : Acc w W2 := by
     refine Acc.call ?_ hb
     (repeat' (first | (with_reducible first | assumption | exact Acc.refl _ | refine Acc.alloc ?_ _ | refine Acc.setCell ?_ ?_ _) | (refine leB ?_; omega)))
   clear hb
   go_wp2_with fail
   all_goals
     go_ret
     refine ⟨by first | rfl | (simp [*]; done) | (simp [go_sem, *]; done), ?_⟩
     show Acc w _
     (repeat' (first | (with_reducible first | assumption | exact Acc.refl _ | refine Acc.alloc ?_ _ | refine Acc.setCell ?_ ?_ _) | (refine leB ?_; omega)))
  | some v =>
   obtain ⟨⟨s1, s2, s3⟩, ⟨t1, t2, t3⟩, ⟨u1, u2, u3⟩, v1, v2, v3⟩ := v
   obtain ⟨hs1, hs2, hs3⟩ := okF_i64 (stimes_ok ho).1
   obtain ⟨ht1, ht2, ht3⟩ := okF_i64 (stimes_ok ho).2.1
   obtain ⟨hu1, hu2, hu3⟩ := okF_i64 (stimes_ok ho).2.2.1
   obtain ⟨hv1, hv2, hv3⟩ := okF_i64 (stimes_ok ho).2.2.2
   have HO := Lib.hid ho
   clear ho
   have qst0 := eqStSame s1 s2 s3 t1 t2 t3 u1 u2 u3 v1 v2 v3
   refine (gave12_some HO.out (implSTimes_any a1 a2 a3 b1 b2 b3 c1 c2 c3 d1 d2 d3 q1 q2 q3 ha1 ha2 ha3 hb1 hb2 hb3 hc1 hc2 hc3 hd1 hd2 hd3 hq1 hq2 hq3 _ (HL.out _ (by repeat' (first | (with_reducible first | assumption | exact Acc.refl _ | refine Acc.alloc ?_ _ | refine Acc.setCell ?_ ?_ _) | (refine leB ?_; omega)))))).mono ?_
   rintro e W1 ⟨rfl, hb⟩
   obtain ⟨Ba, Bc⟩ : Blk W1 (W0.heap.size) [.int .i64 a1, .int .i64 a2, .int .i64 a3, .int .i64 b1, .int .i64 b2, .int .i64 b3, .int .i64 c1, .int .i64 c2, .int .i64 c3, .int .i64 d1, .int .i64 d2, .int .i64 d3] ∧ Blk W1 (W0.heap.size + 1) [.int .i64 q1, .int .i64 q2, .int .i64 q3] := by
     refine ⟨?_, ?_⟩ <;> refine Blk.keep hb ?_ <;> (repeat' (first | (with_reducible first | assumption | apply Blk.set | (refine Blk.new ?_; focus (first | rfl | (simp; done))) | refine Blk.alloc ?_ _ | refine Blk.other ?_ ?_ _) | exact eqL rfl | (refine neB ?_; omega)))
   have ca := Ba.cell
   have fa := Ba.free
   have la_W1 := Ba.lt
   have cc := Bc.cell
   have fc := Bc.free
   have lc_W1 := Bc.lt
   have kaW1 : Acc w W1 := by
     refine Acc.call ?_ hb
     (repeat' (first | (with_reducible first | assumption | exact Acc.refl _ | refine Acc.alloc ?_ _ | refine Acc.setCell ?_ ?_ _) | (refine leB ?_; omega)))
   clear hb
   go_wp2_with fail
   refine (gave12_some HO.out (specSTimes_any a1 a2 a3 b1 b2 b3 c1 c2 c3 d1 d2 d3 q1 q2 q3 _)).mono ?_
   rintro e W2 ⟨rfl, hb⟩
   obtain ⟨Ba, Bc, Bo⟩ : Blk W2 (W0.heap.size) [.int .i64 a1, .int .i64 a2, .int .i64 a3, .int .i64 b1, .int .i64 b2, .int .i64 b3, .int .i64 c1, .int .i64 c2, .int .i64 c3, .int .i64 d1, .int .i64 d2, .int .i64 d3] ∧ Blk W2 (W0.heap.size + 1) [.int .i64 q1, .int .i64 q2, .int .i64 q3] ∧ Blk W2 (W1.heap.size) [.int .i64 s1, .int .i64 s2, .int .i64 s3, .int .i64 t1, .int .i64 t2, .int .i64 t3, .int .i64 u1, .int .i64 u2, .int .i64 u3, .int .i64 v1, .int .i64 v2, .int .i64 v3] := by
     refine ⟨?_, ?_, ?_⟩ <;> refine Blk.keep hb ?_ <;> (repeat' (first | (with_reducible first | assumption | apply Blk.set | (refine Blk.new ?_; focus (first | rfl | (simp; done))) | refine Blk.alloc ?_ _ | refine Blk.other ?_ ?_ _) | exact eqL rfl | (refine neB ?_; omega)))
   have ca := Ba.cell
   have fa := Ba.free
   have la_W2 := Ba.lt
   have cc := Bc.cell
   have fc := Bc.free
   have lc_W2 := Bc.lt
   have co := Bo.cell
   have fo := Bo.free
   have lo_W2 := Bo.lt
   have kaW2 : Acc w W2 := by
     refine Acc.call ?_ hb
     (repeat' (first | (with_reducible first | assumption | exact Acc.refl _ | refine Acc.alloc ?_ _ | refine Acc.setCell ?_ ?_ _) | (refine leB ?_; omega)))
   clear hb
   go_wp2_with fail
   by_cases hc : q1 < 0
   · skip
     cases ht : squaresF s1 s2 s3 t1 t2 t3 u1 u2 u3 v1 v2 v3 with
     | none =>
      have HQS := Lib.hid ht
      clear ht
      refine (gave_none HQS.out (implSquares_any s1 s2 s3 t1 t2 t3 u1 u2 u3 v1 v2 v3 hs1 hs2 hs3 ht1 ht2 ht3 hu1 hu2 hu3 hv1 hv2 hv3 _ (HL.out _ (by repeat' (first | (with_reducible first | assumption | exact Acc.refl _ | refine Acc.alloc ?_ _ | refine Acc.setCell ?_ ?_ _) | (refine leB ?_; omega)))))).mono ?_
      rintro e W3 ⟨rfl, hb⟩
      obtain ⟨Ba, Bc, Bo, Bw⟩ : Blk W3 (W0.heap.size) [.int .i64 a1, .int .i64 a2, .int .i64 a3, .int .i64 b1, .int .i64 b2, .int .i64 b3, .int .i64 c1, .int .i64 c2, .int .i64 c3, .int .i64 d1, .int .i64 d2, .int .i64 d3] ∧ Blk W3 (W0.heap.size + 1) [.int .i64 q1, .int .i64 q2, .int .i64 q3] ∧ Blk W3 (W1.heap.size) [.int .i64 s1, .int .i64 s2, .int .i64 s3, .int .i64 t1, .int .i64 t2, .int .i64 t3, .int .i64 u1, .int .i64 u2, .int .i64 u3, .int .i64 v1, .int .i64 v2, .int .i64 v3] ∧ Blk W3 (W2.heap.size) [.int .i64 s1, .int .i64 s2, .int .i64 s3, .int .i64 t1, .int .i64 t2, .int .i64 t3, .int .i64 u1, .int .i64 u2, .int .i64 u3, .int .i64 v1, .int .i64 v2, .int .i64 v3] := by
        refine ⟨?_, ?_, ?_, ?_⟩ <;> refine Blk.keep hb ?_ <;> (repeat' (first | (with_reducible first | assumption | apply Blk.set | (refine Blk.new ?_; focus (first | rfl | (simp; done))) | refine Blk.alloc ?_ _ | refine Blk.other ?_ ?_ _) | exact eqL rfl | (refine neB ?_; omega)))
      have ca := Ba.cell
      have fa := Ba.free
      have la_W3 := Ba.lt
      have cc := Bc.cell
      have fc := Bc.free
      have lc_W3 := Bc.lt
      have co := Bo.cell
      have fo := Bo.free
      have lo_W3 := Bo.lt
      have cw := Bw.cell
      have fw := Bw.free
      have lw_W3 := Bw.lt
      have kaW3 : Acc w W3 := by
        refine Acc.call ?_ hb
        (repeat' (first | (with_reducible first | assumption | exact Acc.refl _ | refine Acc.alloc ?_ _ | refine Acc.setCell ?_ ?_ _) | (refine leB ?_; omega)))
      clear hb
      go_wp2_with fail
      obtain ⟨⟨f1, f2, f3⟩, hv⟩ : ∃ o, partsR (timesF s1 s2 s3 s1 s2 s3) = o := ⟨_, rfl⟩
      obtain ⟨krs, hk⟩ : ∃ k, okR (timesF s1 s2 s3 s1 s2 s3) = k := ⟨_, rfl⟩
      obtain ⟨hf1, hf2, hf3⟩ := parts_i64 (fun _ _ _ h => times_ok h) hv
      have HV := Lib.hid hv
      have HK := Lib.hid hk
      clear hv hk
      refine (gave_any HV.out HK.out (implTimes_any s1 s2 s3 s1 s2 s3 hs1 hs2 hs3 hs1 hs2 hs3 _ (HL.out _ (by repeat' (first | (with_reducible first | assumption | exact Acc.refl _ | refine Acc.alloc ?_ _ | refine Acc.setCell ?_ ?_ _) | (refine leB ?_; omega)))))).mono ?_
      rintro e W4 ⟨rfl, hb⟩
      obtain ⟨Ba, Bc, Bo, Bw, Bqs⟩ : Blk W4 (W0.heap.size) [.int .i64 a1, .int .i64 a2, .int .i64 a3, .int .i64 b1, .int .i64 b2, .int .i64 b3, .int .i64 c1, .int .i64 c2, .int .i64 c3, .int .i64 d1, .int .i64 d2, .int .i64 d3] ∧ Blk W4 (W0.heap.size + 1) [.int .i64 q1, .int .i64 q2, .int .i64 q3] ∧ Blk W4 (W1.heap.size) [.int .i64 s1, .int .i64 s2, .int .i64 s3, .int .i64 t1, .int .i64 t2, .int .i64 t3, .int .i64 u1, .int .i64 u2, .int .i64 u3, .int .i64 v1, .int .i64 v2, .int .i64 v3] ∧ Blk W4 (W2.heap.size) [.int .i64 s1, .int .i64 s2, .int .i64 s3, .int .i64 t1, .int .i64 t2, .int .i64 t3, .int .i64 u1, .int .i64 u2, .int .i64 u3, .int .i64 v1, .int .i64 v2, .int .i64 v3] ∧ Blk W4 (W3.heap.size) [.int .i64 0, .int .i64 0, .int .i64 0] := by
        refine ⟨?_, ?_, ?_, ?_, ?_⟩ <;> refine Blk.keep hb ?_ <;> (repeat' (first | (with_reducible first | assumption | apply Blk.set | (refine Blk.new ?_; focus (first | rfl | (simp; done))) | refine Blk.alloc ?_ _ | refine Blk.other ?_ ?_ _) | exact eqL rfl | (refine neB ?_; omega)))
      have ca := Ba.cell
      have fa := Ba.free
      have la_W4 := Ba.lt
      have cc := Bc.cell
      have fc := Bc.free
      have lc_W4 := Bc.lt
      have co := Bo.cell
      have fo := Bo.free
      have lo_W4 := Bo.lt
      have cw := Bw.cell
      have fw := Bw.free
      have lw_W4 := Bw.lt
      have cqs := Bqs.cell
      have fqs := Bqs.free
      have lqs_W4 := Bqs.lt
      have kaW4 : Acc w W4 := by
        refine Acc.call ?_ hb
        (repeat' (first | (with_reducible first | assumption | exact Acc.refl _ | refine Acc.alloc ?_ _ | refine Acc.setCell ?_ ?_ _) | (refine leB ?_; omega)))
      clear hb
      go_wp2_with fail
      all_goals
        go_ret
        refine ⟨by first | rfl | (simp [*]; done) | (simp [go_sem, *]; done), ?_⟩
        show Acc w _
        (repeat' (first | (with_reducible first | assumption | exact Acc.refl _ | refine Acc.alloc ?_ _ | refine Acc.setCell ?_ ?_ _) | (refine leB ?_; omega)))
     | some v =>
      obtain ⟨e1, e2, e3⟩ := v
      obtain ⟨he1, he2, he3⟩ := okF_i64 (squares_ok ht)
      have HQS := Lib.hid ht
      clear ht
      refine (gave_some HQS.out (implSquares_any s1 s2 s3 t1 t2 t3 u1 u2 u3 v1 v2 v3 hs1 hs2 hs3 ht1 ht2 ht3 hu1 hu2 hu3 hv1 hv2 hv3 _ (HL.out _ (by repeat' (first | (with_reducible first | assumption | exact Acc.refl _ | refine Acc.alloc ?_ _ | refine Acc.setCell ?_ ?_ _) | (refine leB ?_; omega)))))).mono ?_
      rintro e W3 ⟨rfl, hb⟩
      obtain ⟨Ba, Bc, Bo, Bw⟩ : Blk W3 (W0.heap.size) [.int .i64 a1, .int .i64 a2, .int .i64 a3, .int .i64 b1, .int .i64 b2, .int .i64 b3, .int .i64 c1, .int .i64 c2, .int .i64 c3, .int .i64 d1, .int .i64 d2, .int .i64 d3] ∧ Blk W3 (W0.heap.size + 1) [.int .i64 q1, .int .i64 q2, .int .i64 q3] ∧ Blk W3 (W1.heap.size) [.int .i64 s1, .int .i64 s2, .int .i64 s3, .int .i64 t1, .int .i64 t2, .int .i64 t3, .int .i64 u1, .int .i64 u2, .int .i64 u3, .int .i64 v1, .int .i64 v2, .int .i64 v3] ∧ Blk W3 (W2.heap.size) [.int .i64 s1, .int .i64 s2, .int .i64 s3, .int .i64 t1, .int .i64 t2, .int .i64 t3, .int .i64 u1, .int .i64 u2, .int .i64 u3, .int .i64 v1, .int .i64 v2, .int .i64 v3] := by
        refine ⟨?_, ?_, ?_, ?_⟩ <;> refine Blk.keep hb ?_ <;> (repeat' (first | (with_reducible first | assumption | apply Blk.set | (refine Blk.new ?_; focus (first | rfl | (simp; done))) | refine Blk.alloc ?_ _ | refine Blk.other ?_ ?_ _) | exact eqL rfl | (refine neB ?_; omega)))
      have ca := Ba.cell
      have fa := Ba.free
      have la_W3 := Ba.lt
      have cc := Bc.cell
      have fc := Bc.free
      have lc_W3 := Bc.lt
      have co := Bo.cell
      have fo := Bo.free
      have lo_W3 := Bo.lt
      have cw := Bw.cell
      have fw := Bw.free
      have lw_W3 := Bw.lt
      have kaW3 : Acc w W3 := by
        refine Acc.call ?_ hb
        (repeat' (first | (with_reducible first | assumption | exact Acc.refl _ | refine Acc.alloc ?_ _ | refine Acc.setCell ?_ ?_ _) | (refine leB ?_; omega)))
      clear hb
      go_wp2_with fail
      cases ht : timesF s1 s2 s3 s1 s2 s3 with
      | none =>
       have HRS := Lib.hid ht
       clear ht
       refine (gave_none HRS.out (implTimes_any s1 s2 s3 s1 s2 s3 hs1 hs2 hs3 hs1 hs2 hs3 _ (HL.out _ (by repeat' (first | (with_reducible first | assumption | exact Acc.refl _ | refine Acc.alloc ?_ _ | refine Acc.setCell ?_ ?_ _) | (refine leB ?_; omega)))))).mono ?_
       rintro e W4 ⟨rfl, hb⟩
       obtain ⟨Ba, Bc, Bo, Bw, Bqs⟩ : Blk W4 (W0.heap.size) [.int .i64 a1, .int .i64 a2, .int .i64 a3, .int .i64 b1, .int .i64 b2, .int .i64 b3, .int .i64 c1, .int .i64 c2, .int .i64 c3, .int .i64 d1, .int .i64 d2, .int .i64 d3] ∧ Blk W4 (W0.heap.size + 1) [.int .i64 q1, .int .i64 q2, .int .i64 q3] ∧ Blk W4 (W1.heap.size) [.int .i64 s1, .int .i64 s2, .int .i64 s3, .int .i64 t1, .int .i64 t2, .int .i64 t3, .int .i64 u1, .int .i64 u2, .int .i64 u3, .int .i64 v1, .int .i64 v2, .int .i64 v3] ∧ Blk W4 (W2.heap.size) [.int .i64 s1, .int .i64 s2, .int .i64 s3, .int .i64 t1, .int .i64 t2, .int .i64 t3, .int .i64 u1, .int .i64 u2, .int .i64 u3, .int .i64 v1, .int .i64 v2, .int .i64 v3] ∧ Blk W4 (W3.heap.size) [.int .i64 e1, .int .i64 e2, .int .i64 e3] := by
         refine ⟨?_, ?_, ?_, ?_, ?_⟩ <;> refine Blk.keep hb ?_ <;> (repeat' (first | (with_reducible first | assumption | apply Blk.set | (refine Blk.new ?_; focus (first | rfl | (simp; done))) | refine Blk.alloc ?_ _ | refine Blk.other ?_ ?_ _) | exact eqL rfl | (refine neB ?_; omega)))
       have ca := Ba.cell
       have fa := Ba.free
       have la_W4 := Ba.lt
       have cc := Bc.cell
       have fc := Bc.free
       have lc_W4 := Bc.lt
       have co := Bo.cell
       have fo := Bo.free
       have lo_W4 := Bo.lt
       have cw := Bw.cell
       have fw := Bw.free
       have lw_W4 := Bw.lt
       have cqs := Bqs.cell
       have fqs := Bqs.free
       have lqs_W4 := Bqs.lt
       have kaW4 : Acc w W4 := by
         refine Acc.call ?_ hb
         (repeat' (first | (with_reducible first | assumption | exact Acc.refl _ | refine Acc.alloc ?_ _ | refine Acc.setCell ?_ ?_ _) | (refine leB ?_; omega)))
       clear hb
       go_wp2_with fail
       all_goals
         go_ret
         refine ⟨by first | rfl | (simp [*]; done) | (simp [go_sem, *]; done), ?_⟩
         show Acc w _
         (repeat' (first | (with_reducible first | assumption | exact Acc.refl _ | refine Acc.alloc ?_ _ | refine Acc.setCell ?_ ?_ _) | (refine leB ?_; omega)))
      | some v =>
       obtain ⟨f1, f2, f3⟩ := v
       obtain ⟨hf1, hf2, hf3⟩ := okF_i64 (times_ok ht)
       have HRS := Lib.hid ht
       clear ht
       refine (gave_some HRS.out (implTimes_any s1 s2 s3 s1 s2 s3 hs1 hs2 hs3 hs1 hs2 hs3 _ (HL.out _ (by repeat' (first | (with_reducible first | assumption | exact Acc.refl _ | refine Acc.alloc ?_ _ | refine Acc.setCell ?_ ?_ _) | (refine leB ?_; omega)))))).mono ?_
       rintro e W4 ⟨rfl, hb⟩
       obtain ⟨Ba, Bc, Bo, Bw, Bqs⟩ : Blk W4 (W0.heap.size) [.int .i64 a1, .int .i64 a2, .int .i64 a3, .int .i64 b1, .int .i64 b2, .int .i64 b3, .int .i64 c1, .int .i64 c2, .int .i64 c3, .int .i64 d1, .int .i64 d2, .int .i64 d3] ∧ Blk W4 (W0.heap.size + 1) [.int .i64 q1, .int .i64 q2, .int .i64 q3] ∧ Blk W4 (W1.heap.size) [.int .i64 s1, .int .i64 s2, .int .i64 s3, .int .i64 t1, .int .i64 t2, .int .i64 t3, .int .i64 u1, .int .i64 u2, .int .i64 u3, .int .i64 v1, .int .i64 v2, .int .i64 v3] ∧ Blk W4 (W2.heap.size) [.int .i64 s1, .int .i64 s2, .int .i64 s3, .int .i64 t1, .int .i64 t2, .int .i64 t3, .int .i64 u1, .int .i64 u2, .int .i64 u3, .int .i64 v1, .int .i64 v2, .int .i64 v3] ∧ Blk W4 (W3.heap.size) [.int .i64 e1, .int .i64 e2, .int .i64 e3] := by
         refine ⟨?_, ?_, ?_, ?_, ?_⟩ <;> refine Blk.keep hb ?_ <;> (repeat' (first | (with_reducible first | assumption | apply Blk.set | (refine Blk.new ?_; focus (first | rfl | (simp; done))) | refine Blk.alloc ?_ _ | refine Blk.other ?_ ?_ _) | exact eqL rfl | (refine neB ?_; omega)))
       have ca := Ba.cell
       have fa := Ba.free
       have la_W4 := Ba.lt
       have cc := Bc.cell
       have fc := Bc.free
       have lc_W4 := Bc.lt
       have co := Bo.cell
       have fo := Bo.free
       have lo_W4 := Bo.lt
       have cw := Bw.cell
       have fw := Bw.free
       have lw_W4 := Bw.lt
       have cqs := Bqs.cell
       have fqs := Bqs.free
       have lqs_W4 := Bqs.lt
       have kaW4 : Acc w W4 := by
         refine Acc.call ?_ hb
         (repeat' (first | (with_reducible first | assumption | exact Acc.refl _ | refine Acc.alloc ?_ _ | refine Acc.setCell ?_ ?_ _) | (refine leB ?_; omega)))
       clear hb
       go_wp2_with fail
       all_goals
         go_ret
         refine ⟨by first | rfl | (simp [*]; done) | (simp [go_sem, *]; done), ?_⟩
         show Acc w _
         (repeat' (first | (with_reducible first | assumption | exact Acc.refl _ | refine Acc.alloc ?_ _ | refine Acc.setCell ?_ ?_ _) | (refine leB ?_; omega)))
   · skip
     cases ht : squaresF s1 s2 s3 t1 t2 t3 u1 u2 u3 v1 v2 v3 with
     | none =>
      have HQS := Lib.hid ht
      clear ht
      refine (gave_none HQS.out (implSquares_any s1 s2 s3 t1 t2 t3 u1 u2 u3 v1 v2 v3 hs1 hs2 hs3 ht1 ht2 ht3 hu1 hu2 hu3 hv1 hv2 hv3 _ (HL.out _ (by repeat' (first | (with_reducible first | assumption | exact Acc.refl _ | refine Acc.alloc ?_ _ | refine Acc.setCell ?_ ?_ _) | (refine leB ?_; omega)))))).mono ?_
      rintro e W3 ⟨rfl, hb⟩
      obtain ⟨Ba, Bc, Bo, Bw⟩ : Blk W3 (W0.heap.size) [.int .i64 a1, .int .i64 a2, .int .i64 a3, .int .i64 b1, .int .i64 b2, .int .i64 b3, .int .i64 c1, .int .i64 c2, .int .i64 c3, .int .i64 d1, .int .i64 d2, .int .i64 d3] ∧ Blk W3 (W0.heap.size + 1) [.int .i64 q1, .int .i64 q2, .int .i64 q3] ∧ Blk W3 (W1.heap.size) [.int .i64 s1, .int .i64 s2, .int .i64 s3, .int .i64 t1, .int .i64 t2, .int .i64 t3, .int .i64 u1, .int .i64 u2, .int .i64 u3, .int .i64 v1, .int .i64 v2, .int .i64 v3] ∧ Blk W3 (W2.heap.size) [.int .i64 s1, .int .i64 s2, .int .i64 s3, .int .i64 t1, .int .i64 t2, .int .i64 t3, .int .i64 u1, .int .i64 u2, .int .i64 u3, .int .i64 v1, .int .i64 v2, .int .i64 v3] := by
        refine ⟨?_, ?_, ?_, ?_⟩ <;> refine Blk.keep hb ?_ <;> (repeat' (first | (with_reducible first | assumption | apply Blk.set | (refine Blk.new ?_; focus (first | rfl | (simp; done))) | refine Blk.alloc ?_ _ | refine Blk.other ?_ ?_ _) | exact eqL rfl | (refine neB ?_; omega)))
      have ca := Ba.cell
      have fa := Ba.free
      have la_W3 := Ba.lt
      have cc := Bc.cell
      have fc := Bc.free
      have lc_W3 := Bc.lt
      have co := Bo.cell
      have fo := Bo.free
      have lo_W3 := Bo.lt
      have cw := Bw.cell
      have fw := Bw.free
      have lw_W3 := Bw.lt
      have kaW3 : Acc w W3 := by
        refine Acc.call ?_ hb
        (repeat' (first | (with_reducible first | assumption | exact Acc.refl _ | refine Acc.alloc ?_ _ | refine Acc.setCell ?_ ?_ _) | (refine leB ?_; omega)))
      clear hb
      go_wp2_with fail
      obtain ⟨⟨f1, f2, f3⟩, hv⟩ : ∃ o, partsR (timesF s1 s2 s3 s1 s2 s3) = o := ⟨_, rfl⟩
      obtain ⟨krs, hk⟩ : ∃ k, okR (timesF s1 s2 s3 s1 s2 s3) = k := ⟨_, rfl⟩
      obtain ⟨hf1, hf2, hf3⟩ := parts_i64 (fun _ _ _ h => times_ok h) hv
      have HV := Lib.hid hv
      have HK := Lib.hid hk
      clear hv hk
      refine (gave_any HV.out HK.out (implTimes_any s1 s2 s3 s1 s2 s3 hs1 hs2 hs3 hs1 hs2 hs3 _ (HL.out _ (by repeat' (first | (with_reducible first | assumption | exact Acc.refl _ | refine Acc.alloc ?_ _ | refine Acc.setCell ?_ ?_ _) | (refine leB ?_; omega)))))).mono ?_
      rintro e W4 ⟨rfl, hb⟩
      obtain ⟨Ba, Bc, Bo, Bw, Bqs⟩ : Blk W4 (W0.heap.size) [.int .i64 a1, .int .i64 a2, .int .i64 a3, .int .i64 b1, .int .i64 b2, .int .i64 b3, .int .i64 c1, .int .i64 c2, .int .i64 c3, .int .i64 d1, .int .i64 d2, .int .i64 d3] ∧ Blk W4 (W0.heap.size + 1) [.int .i64 q1, .int .i64 q2, .int .i64 q3] ∧ Blk W4 (W1.heap.size) [.int .i64 s1, .int .i64 s2, .int .i64 s3, .int .i64 t1, .int .i64 t2, .int .i64 t3, .int .i64 u1, .int .i64 u2, .int .i64 u3, .int .i64 v1, .int .i64 v2, .int .i64 v3] ∧ Blk W4 (W2.heap.size) [.int .i64 s1, .int .i64 s2, .int .i64 s3, .int .i64 t1, .int .i64 t2, .int .i64 t3, .int .i64 u1, .int .i64 u2, .int .i64 u3, .int .i64 v1, .int .i64 v2, .int .i64 v3] ∧ Blk W4 (W3.heap.size) [.int .i64 0, .int .i64 0, .int .i64 0] := by
        refine ⟨?_, ?_, ?_, ?_, ?_⟩ <;> refine Blk.keep hb ?_ <;> (repeat' (first | (with_reducible first | assumption | apply Blk.set | (refine Blk.new ?_; focus (first | rfl | (simp; done))) | refine Blk.alloc ?_ _ | refine Blk.other ?_ ?_ _) | exact eqL rfl | (refine neB ?_; omega)))
      have ca := Ba.cell
      have fa := Ba.free
      have la_W4 := Ba.lt
      have cc := Bc.cell
      have fc := Bc.free
      have lc_W4 := Bc.lt
      have co := Bo.cell
      have fo := Bo.free
      have lo_W4 := Bo.lt
      have cw := Bw.cell
      have fw := Bw.free
      have lw_W4 := Bw.lt
      have cqs := Bqs.cell
      have fqs := Bqs.free
      have lqs_W4 := Bqs.lt
      have kaW4 : Acc w W4 := by
        refine Acc.call ?_ hb
        (repeat' (first | (with_reducible first | assumption | exact Acc.refl _ | refine Acc.alloc ?_ _ | refine Acc.setCell ?_ ?_ _) | (refine leB ?_; omega)))
      clear hb
      go_wp2_with fail
      cases hl5 : lightF a1 a2 a3 b1 b2 b3 c1 c2 c3 d1 d2 d3 with
      | false =>
        have HA := Lib.hid hl5
        clear hl5
        go_wp2_with fail
        refine (valid_at HA.out (implLight_any a1 a2 a3 b1 b2 b3 c1 c2 c3 d1 d2 d3 ha1 ha2 ha3 hb1 hb2 hb3 hc1 hc2 hc3 hd1 hd2 hd3 _ (HL.out _ (by repeat' (first | (with_reducible first | assumption | exact Acc.refl _ | refine Acc.alloc ?_ _ | refine Acc.setCell ?_ ?_ _) | (refine leB ?_; omega)))))).mono ?_
        rintro e W5 ⟨rfl, hb⟩
        obtain ⟨Ba, Bc, Bo, Bw, Bqs, Brs⟩ : Blk W5 (W0.heap.size) [.int .i64 a1, .int .i64 a2, .int .i64 a3, .int .i64 b1, .int .i64 b2, .int .i64 b3, .int .i64 c1, .int .i64 c2, .int .i64 c3, .int .i64 d1, .int .i64 d2, .int .i64 d3] ∧ Blk W5 (W0.heap.size + 1) [.int .i64 q1, .int .i64 q2, .int .i64 q3] ∧ Blk W5 (W1.heap.size) [.int .i64 s1, .int .i64 s2, .int .i64 s3, .int .i64 t1, .int .i64 t2, .int .i64 t3, .int .i64 u1, .int .i64 u2, .int .i64 u3, .int .i64 v1, .int .i64 v2, .int .i64 v3] ∧ Blk W5 (W2.heap.size) [.int .i64 s1, .int .i64 s2, .int .i64 s3, .int .i64 t1, .int .i64 t2, .int .i64 t3, .int .i64 u1, .int .i64 u2, .int .i64 u3, .int .i64 v1, .int .i64 v2, .int .i64 v3] ∧ Blk W5 (W3.heap.size) [.int .i64 0, .int .i64 0, .int .i64 0] ∧ Blk W5 (W4.heap.size) [.int .i64 f1, .int .i64 f2, .int .i64 f3] := by
          refine ⟨?_, ?_, ?_, ?_, ?_, ?_⟩ <;> refine Blk.keep hb ?_ <;> (repeat' (first | (with_reducible first | assumption | apply Blk.set | (refine Blk.new ?_; focus (first | rfl | (simp; done))) | refine Blk.alloc ?_ _ | refine Blk.other ?_ ?_ _) | exact eqL rfl | (refine neB ?_; omega)))
        have ca := Ba.cell
        have fa := Ba.free
        have la_W5 := Ba.lt
        have cc := Bc.cell
        have fc := Bc.free
        have lc_W5 := Bc.lt
        have co := Bo.cell
        have fo := Bo.free
        have lo_W5 := Bo.lt
        have cw := Bw.cell
        have fw := Bw.free
        have lw_W5 := Bw.lt
        have cqs := Bqs.cell
        have fqs := Bqs.free
        have lqs_W5 := Bqs.lt
        have crs := Brs.cell
        have frs := Brs.free
        have lrs_W5 := Brs.lt
        have kaW5 : Acc w W5 := by
          refine Acc.call ?_ hb
          (repeat' (first | (with_reducible first | assumption | exact Acc.refl _ | refine Acc.alloc ?_ _ | refine Acc.setCell ?_ ?_ _) | (refine leB ?_; omega)))
        clear hb
        go_wp2_with fail
        all_goals
          go_ret
          refine ⟨by first | rfl | (simp [*]; done) | (simp [go_sem, *]; done), ?_⟩
          show Acc w _
          (repeat' (first | (with_reducible first | assumption | exact Acc.refl _ | refine Acc.alloc ?_ _ | refine Acc.setCell ?_ ?_ _) | (refine leB ?_; omega)))
      | true =>
        have HA := Lib.hid hl5
        clear hl5
        go_wp2_with fail
        refine (valid_at HA.out (implLight_any a1 a2 a3 b1 b2 b3 c1 c2 c3 d1 d2 d3 ha1 ha2 ha3 hb1 hb2 hb3 hc1 hc2 hc3 hd1 hd2 hd3 _ (HL.out _ (by repeat' (first | (with_reducible first | assumption | exact Acc.refl _ | refine Acc.alloc ?_ _ | refine Acc.setCell ?_ ?_ _) | (refine leB ?_; omega)))))).mono ?_
        rintro e W5 ⟨rfl, hb⟩
        obtain ⟨Ba, Bc, Bo, Bw, Bqs, Brs⟩ : Blk W5 (W0.heap.size) [.int .i64 a1, .int .i64 a2, .int .i64 a3, .int .i64 b1, .int .i64 b2, .int .i64 b3, .int .i64 c1, .int .i64 c2, .int .i64 c3, .int .i64 d1, .int .i64 d2, .int .i64 d3] ∧ Blk W5 (W0.heap.size + 1) [.int .i64 q1, .int .i64 q2, .int .i64 q3] ∧ Blk W5 (W1.heap.size) [.int .i64 s1, .int .i64 s2, .int .i64 s3, .int .i64 t1, .int .i64 t2, .int .i64 t3, .int .i64 u1, .int .i64 u2, .int .i64 u3, .int .i64 v1, .int .i64 v2, .int .i64 v3] ∧ Blk W5 (W2.heap.size) [.int .i64 s1, .int .i64 s2, .int .i64 s3, .int .i64 t1, .int .i64 t2, .int .i64 t3, .int .i64 u1, .int .i64 u2, .int .i64 u3, .int .i64 v1, .int .i64 v2, .int .i64 v3] ∧ Blk W5 (W3.heap.size) [.int .i64 0, .int .i64 0, .int .i64 0] ∧ Blk W5 (W4.heap.size) [.int .i64 f1, .int .i64 f2, .int .i64 f3] := by
          refine ⟨?_, ?_, ?_, ?_, ?_, ?_⟩ <;> refine Blk.keep hb ?_ <;> (repeat' (first | (with_reducible first | assumption | apply Blk.set | (refine Blk.new ?_; focus (first | rfl | (simp; done))) | refine Blk.alloc ?_ _ | refine Blk.other ?_ ?_ _) | exact eqL rfl | (refine neB ?_; omega)))
        have ca := Ba.cell
        have fa := Ba.free
        have la_W5 := Ba.lt
        have cc := Bc.cell
        have fc := Bc.free
        have lc_W5 := Bc.lt
        have co := Bo.cell
        have fo := Bo.free
        have lo_W5 := Bo.lt
        have cw := Bw.cell
        have fw := Bw.free
        have lw_W5 := Bw.lt
        have cqs := Bqs.cell
        have fqs := Bqs.free
        have lqs_W5 := Bqs.lt
        have crs := Brs.cell
        have frs := Brs.free
        have lrs_W5 := Brs.lt
        have kaW5 : Acc w W5 := by
          refine Acc.call ?_ hb
          (repeat' (first | (with_reducible first | assumption | exact Acc.refl _ | refine Acc.alloc ?_ _ | refine Acc.setCell ?_ ?_ _) | (refine leB ?_; omega)))
        clear hb
        go_wp2_with fail
        all_goals
          go_ret
          refine ⟨by first | rfl | (simp [*]; done) | (simp [go_sem, *]; done), ?_⟩
          show Acc w _
          (repeat' (first | (with_reducible first | assumption | exact Acc.refl _ | refine Acc.alloc ?_ _ | refine Acc.setCell ?_ ?_ _) | (refine leB ?_; omega)))
     | some v =>
      obtain ⟨e1, e2, e3⟩ := v
      obtain ⟨he1, he2, he3⟩ := okF_i64 (squares_ok ht)
      have HQS := Lib.hid ht
      clear ht
      refine (gave_some HQS.out (implSquares_any s1 s2 s3 t1 t2 t3 u1 u2 u3 v1 v2 v3 hs1 hs2 hs3 ht1 ht2 ht3 hu1 hu2 hu3 hv1 hv2 hv3 _ (HL.out _ (by repeat' (first | (with_reducible first | assumption | exact Acc.refl _ | refine Acc.alloc ?_ _ | refine Acc.setCell ?_ ?_ _) | (refine leB ?_; omega)))))).mono ?_
      rintro e W3 ⟨rfl, hb⟩
      obtain ⟨Ba, Bc, Bo, Bw⟩ : Blk W3 (W0.heap.size) [.int .i64 a1, .int .i64 a2, .int .i64 a3, .int .i64 b1, .int .i64 b2, .int .i64 b3, .int .i64 c1, .int .i64 c2, .int .i64 c3, .int .i64 d1, .int .i64 d2, .int .i64 d3] ∧ Blk W3 (W0.heap.size + 1) [.int .i64 q1, .int .i64 q2, .int .i64 q3] ∧ Blk W3 (W1.heap.size) [.int .i64 s1, .int .i64 s2, .int .i64 s3, .int .i64 t1, .int .i64 t2, .int .i64 t3, .int .i64 u1, .int .i64 u2, .int .i64 u3, .int .i64 v1, .int .i64 v2, .int .i64 v3] ∧ Blk W3 (W2.heap.size) [.int .i64 s1, .int .i64 s2, .int .i64 s3, .int .i64 t1, .int .i64 t2, .int .i64 t3, .int .i64 u1, .int .i64 u2, .int .i64 u3, .int .i64 v1, .int .i64 v2, .int .i64 v3] := by
        refine ⟨?_, ?_, ?_, ?_⟩ <;> refine Blk.keep hb ?_ <;> (repeat' (first | (with_reducible first | assumption | apply Blk.set | (refine Blk.new ?_; focus (first | rfl | (simp; done))) | refine Blk.alloc ?_ _ | refine Blk.other ?_ ?_ _) | exact eqL rfl | (refine neB ?_; omega)))
      have ca := Ba.cell
      have fa := Ba.free
      have la_W3 := Ba.lt
      have cc := Bc.cell
      have fc := Bc.free
      have lc_W3 := Bc.lt
      have co := Bo.cell
      have fo := Bo.free
      have lo_W3 := Bo.lt
      have cw := Bw.cell
      have fw := Bw.free
      have lw_W3 := Bw.lt
      have kaW3 : Acc w W3 := by
        refine Acc.call ?_ hb
        (repeat' (first | (with_reducible first | assumption | exact Acc.refl _ | refine Acc.alloc ?_ _ | refine Acc.setCell ?_ ?_ _) | (refine leB ?_; omega)))
      clear hb
      go_wp2_with fail
      cases ht : timesF s1 s2 s3 s1 s2 s3 with
      | none =>
       have HRS := Lib.hid ht
       clear ht
       refine (gave_none HRS.out (implTimes_any s1 s2 s3 s1 s2 s3 hs1 hs2 hs3 hs1 hs2 hs3 _ (HL.out _ (by repeat' (first | (with_reducible first | assumption | exact Acc.refl _ | refine Acc.alloc ?_ _ | refine Acc.setCell ?_ ?_ _) | (refine leB ?_; omega)))))).mono ?_
       rintro e W4 ⟨rfl, hb⟩
       obtain ⟨Ba, Bc, Bo, Bw, Bqs⟩ : Blk W4 (W0.heap.size) [.int .i64 a1, .int .i64 a2, .int .i64 a3, .int .i64 b1, .int .i64 b2, .int .i64 b3, .int .i64 c1, .int .i64 c2, .int .i64 c3, .int .i64 d1, .int .i64 d2, .int .i64 d3] ∧ Blk W4 (W0.heap.size + 1) [.int .i64 q1, .int .i64 q2, .int .i64 q3] ∧ Blk W4 (W1.heap.size) [.int .i64 s1, .int .i64 s2, .int .i64 s3, .int .i64 t1, .int .i64 t2, .int .i64 t3, .int .i64 u1, .int .i64 u2, .int .i64 u3, .int .i64 v1, .int .i64 v2, .int .i64 v3] ∧ Blk W4 (W2.heap.size) [.int .i64 s1, .int .i64 s2, .int .i64 s3, .int .i64 t1, .int .i64 t2, .int .i64 t3, .int .i64 u1, .int .i64 u2, .int .i64 u3, .int .i64 v1, .int .i64 v2, .int .i64 v3] ∧ Blk W4 (W3.heap.size) [.int .i64 e1, .int .i64 e2, .int .i64 e3] := by
         refine ⟨?_, ?_, ?_, ?_, ?_⟩ <;> refine Blk.keep hb ?_ <;> (repeat' (first | (with_reducible first | assumption | apply Blk.set | (refine Blk.new ?_; focus (first | rfl | (simp; done))) | refine Blk.alloc ?_ _ | refine Blk.other ?_ ?_ _) | exact eqL rfl | (refine neB ?_; omega)))
       have ca := Ba.cell
       have fa := Ba.free
       have la_W4 := Ba.lt
       have cc := Bc.cell
       have fc := Bc.free
       have lc_W4 := Bc.lt
       have co := Bo.cell
       have fo := Bo.free
       have lo_W4 := Bo.lt
       have cw := Bw.cell
       have fw := Bw.free
       have lw_W4 := Bw.lt
       have cqs := Bqs.cell
       have fqs := Bqs.free
       have lqs_W4 := Bqs.lt
       have kaW4 : Acc w W4 := by
         refine Acc.call ?_ hb
         (repeat' (first | (with_reducible first | assumption | exact Acc.refl _ | refine Acc.alloc ?_ _ | refine Acc.setCell ?_ ?_ _) | (refine leB ?_; omega)))
       clear hb
       go_wp2_with fail
       cases hl5 : lightF a1 a2 a3 b1 b2 b3 c1 c2 c3 d1 d2 d3 with
       | false =>
         have HA := Lib.hid hl5
         clear hl5
         go_wp2_with fail
         refine (valid_at HA.out (implLight_any a1 a2 a3 b1 b2 b3 c1 c2 c3 d1 d2 d3 ha1 ha2 ha3 hb1 hb2 hb3 hc1 hc2 hc3 hd1 hd2 hd3 _ (HL.out _ (by repeat' (first | (with_reducible first | assumption | exact Acc.refl _ | refine Acc.alloc ?_ _ | refine Acc.setCell ?_ ?_ _) | (refine leB ?_; omega)))))).mono ?_
         rintro e W5 ⟨rfl, hb⟩
         obtain ⟨Ba, Bc, Bo, Bw, Bqs, Brs⟩ : Blk W5 (W0.heap.size) [.int .i64 a1, .int .i64 a2, .int .i64 a3, .int .i64 b1, .int .i64 b2, .int .i64 b3, .int .i64 c1, .int .i64 c2, .int .i64 c3, .int .i64 d1, .int .i64 d2, .int .i64 d3] ∧ Blk W5 (W0.heap.size + 1) [.int .i64 q1, .int .i64 q2, .int .i64 q3] ∧ Blk W5 (W1.heap.size) [.int .i64 s1, .int .i64 s2, .int .i64 s3, .int .i64 t1, .int .i64 t2, .int .i64 t3, .int .i64 u1, .int .i64 u2, .int .i64 u3, .int .i64 v1, .int .i64 v2, .int .i64 v3] ∧ Blk W5 (W2.heap.size) [.int .i64 s1, .int .i64 s2, .int .i64 s3, .int .i64 t1, .int .i64 t2, .int .i64 t3, .int .i64 u1, .int .i64 u2, .int .i64 u3, .int .i64 v1, .int .i64 v2, .int .i64 v3] ∧ Blk W5 (W3.heap.size) [.int .i64 e1, .int .i64 e2, .int .i64 e3] ∧ Blk W5 (W4.heap.size) [.int .i64 0, .int .i64 0, .int .i64 0] := by
           refine ⟨?_, ?_, ?_, ?_, ?_, ?_⟩ <;> refine Blk.keep hb ?_ <;> (repeat' (first | (with_reducible first | assumption | apply Blk.set | (refine Blk.new ?_; focus (first | rfl | (simp; done))) | refine Blk.alloc ?_ _ | refine Blk.other ?_ ?_ _) | exact eqL rfl | (refine neB ?_; omega)))
         have ca := Ba.cell
         have fa := Ba.free
         have la_W5 := Ba.lt
         have cc := Bc.cell
         have fc := Bc.free
         have lc_W5 := Bc.lt
         have co := Bo.cell
         have fo := Bo.free
         have lo_W5 := Bo.lt
         have cw := Bw.cell
         have fw := Bw.free
         have lw_W5 := Bw.lt
         have cqs := Bqs.cell
         have fqs := Bqs.free
         have lqs_W5 := Bqs.lt
         have crs := Brs.cell
         have frs := Brs.free
         have lrs_W5 := Brs.lt
         have kaW5 : Acc w W5 := by
           refine Acc.call ?_ hb
           (repeat' (first | (with_reducible first | assumption | exact Acc.refl _ | refine Acc.alloc ?_ _ | refine Acc.setCell ?_ ?_ _) | (refine leB ?_; omega)))
         clear hb
         go_wp2_with fail
         all_goals
           go_ret
           refine ⟨by first | rfl | (simp [*]; done) | (simp [go_sem, *]; done), ?_⟩
           show Acc w _
           (repeat' (first | (with_reducible first | assumption | exact Acc.refl _ | refine Acc.alloc ?_ _ | refine Acc.setCell ?_ ?_ _) | (refine leB ?_; omega)))
       | true =>
         have HA := Lib.hid hl5
         clear hl5
         go_wp2_with fail
         refine (valid_at HA.out (implLight_any a1 a2 a3 b1 b2 b3 c1 c2 c3 d1 d2 d3 ha1 ha2 ha3 hb1 hb2 hb3 hc1 hc2 hc3 hd1 hd2 hd3 _ (HL.out _ (by repeat' (first | (with_reducible first | assumption | exact Acc.refl _ | refine Acc.alloc ?_ _ | refine Acc.setCell ?_ ?_ _) | (refine leB ?_; omega)))))).mono ?_
         rintro e W5 ⟨rfl, hb⟩
         obtain ⟨Ba, Bc, Bo, Bw, Bqs, Brs⟩ : Blk W5 (W0.heap.size) [.int .i64 a1, .int .i64 a2, .int .i64 a3, .int .i64 b1, .int .i64 b2, .int .i64 b3, .int .i64 c1, .int .i64 c2, .int .i64 c3, .int .i64 d1, .int .i64 d2, .int .i64 d3] ∧ Blk W5 (W0.heap.size + 1) [.int .i64 q1, .int .i64 q2, .int .i64 q3] ∧ Blk W5 (W1.heap.size) [.int .i64 s1, .int .i64 s2, .int .i64 s3, .int .i64 t1, .int .i64 t2, .int .i64 t3, .int .i64 u1, .int .i64 u2, .int .i64 u3, .int .i64 v1, .int .i64 v2, .int .i64 v3] ∧ Blk W5 (W2.heap.size) [.int .i64 s1, .int .i64 s2, .int .i64 s3, .int .i64 t1, .int .i64 t2, .int .i64 t3, .int .i64 u1, .int .i64 u2, .int .i64 u3, .int .i64 v1, .int .i64 v2, .int .i64 v3] ∧ Blk W5 (W3.heap.size) [.int .i64 e1, .int .i64 e2, .int .i64 e3] ∧ Blk W5 (W4.heap.size) [.int .i64 0, .int .i64 0, .int .i64 0] := by
           refine ⟨?_, ?_, ?_, ?_, ?_, ?_⟩ <;> refine Blk.keep hb ?_ <;> (repeat' (first | (with_reducible first | assumption | apply Blk.set | (refine Blk.new ?_; focus (first | rfl | (simp; done))) | refine Blk.alloc ?_ _ | refine Blk.other ?_ ?_ _) | exact eqL rfl | (refine neB ?_; omega)))
         have ca := Ba.cell
         have fa := Ba.free
         have la_W5 := Ba.lt
         have cc := Bc.cell
         have fc := Bc.free
         have lc_W5 := Bc.lt
         have co := Bo.cell
         have fo := Bo.free
         have lo_W5 := Bo.lt
         have cw := Bw.cell
         have fw := Bw.free
         have lw_W5 := Bw.lt
         have cqs := Bqs.cell
         have fqs := Bqs.free
         have lqs_W5 := Bqs.lt
         have crs := Brs.cell
         have frs := Brs.free
         have lrs_W5 := Brs.lt
         have kaW5 : Acc w W5 := by
           refine Acc.call ?_ hb
           (repeat' (first | (with_reducible first | assumption | exact Acc.refl _ | refine Acc.alloc ?_ _ | refine Acc.setCell ?_ ?_ _) | (refine leB ?_; omega)))
         clear hb
         go_wp2_with fail
         all_goals
           go_ret
           refine ⟨by first | rfl | (simp [*]; done) | (simp [go_sem, *]; done), ?_⟩
           show Acc w _
           (repeat' (first | (with_reducible first | assumption | exact Acc.refl _ | refine Acc.alloc ?_ _ | refine Acc.setCell ?_ ?_ _) | (refine leB ?_; omega)))
      | some v =>
       obtain ⟨f1, f2, f3⟩ := v
       obtain ⟨hf1, hf2, hf3⟩ := okF_i64 (times_ok ht)
       have HRS := Lib.hid ht
       clear ht
       refine (gave_some HRS.out (implTimes_any s1 s2 s3 s1 s2 s3 hs1 hs2 hs3 hs1 hs2 hs3 _ (HL.out _ (by repeat' (first | (with_reducible first | assumption | exact Acc.refl _ | refine Acc.alloc ?_ _ | refine Acc.setCell ?_ ?_ _) | (refine leB ?_; omega)))))).mono ?_
       rintro e W4 ⟨rfl, hb⟩
       obtain ⟨Ba, Bc, Bo, Bw, Bqs⟩ : Blk W4 (W0.heap.size) [.int .i64 a1, .int .i64 a2, .int .i64 a3, .int .i64 b1, .int .i64 b2, .int .i64 b3, .int .i64 c1, .int .i64 c2, .int .i64 c3, .int .i64 d1, .int .i64 d2, .int .i64 d3] ∧ Blk W4 (W0.heap.size + 1) [.int .i64 q1, .int .i64 q2, .int .i64 q3] ∧ Blk W4 (W1.heap.size) [.int .i64 s1, .int .i64 s2, .int .i64 s3, .int .i64 t1, .int .i64 t2, .int .i64 t3, .int .i64 u1, .int .i64 u2, .int .i64 u3, .int .i64 v1, .int .i64 v2, .int .i64 v3] ∧ Blk W4 (W2.heap.size) [.int .i64 s1, .int .i64 s2, .int .i64 s3, .int .i64 t1, .int .i64 t2, .int .i64 t3, .int .i64 u1, .int .i64 u2, .int .i64 u3, .int .i64 v1, .int .i64 v2, .int .i64 v3] ∧ Blk W4 (W3.heap.size) [.int .i64 e1, .int .i64 e2, .int .i64 e3] := by
         refine ⟨?_, ?_, ?_, ?_, ?_⟩ <;> refine Blk.keep hb ?_ <;> (repeat' (first | (with_reducible first | assumption | apply Blk.set | (refine Blk.new ?_; focus (first | rfl | (simp; done))) | refine Blk.alloc ?_ _ | refine Blk.other ?_ ?_ _) | exact eqL rfl | (refine neB ?_; omega)))
       have ca := Ba.cell
       have fa := Ba.free
       have la_W4 := Ba.lt
       have cc := Bc.cell
       have fc := Bc.free
       have lc_W4 := Bc.lt
       have co := Bo.cell
       have fo := Bo.free
       have lo_W4 := Bo.lt
       have cw := Bw.cell
       have fw := Bw.free
       have lw_W4 := Bw.lt
       have cqs := Bqs.cell
       have fqs := Bqs.free
       have lqs_W4 := Bqs.lt
       have kaW4 : Acc w W4 := by
         refine Acc.call ?_ hb
         (repeat' (first | (with_reducible first | assumption | exact Acc.refl _ | refine Acc.alloc ?_ _ | refine Acc.setCell ?_ ?_ _) | (refine leB ?_; omega)))
       clear hb
       go_wp2_with fail
       cases hl5 : lightF a1 a2 a3 b1 b2 b3 c1 c2 c3 d1 d2 d3 with
       | false =>
         have HA := Lib.hid hl5
         clear hl5
         go_wp2_with fail
         refine (valid_at HA.out (implLight_any a1 a2 a3 b1 b2 b3 c1 c2 c3 d1 d2 d3 ha1 ha2 ha3 hb1 hb2 hb3 hc1 hc2 hc3 hd1 hd2 hd3 _ (HL.out _ (by repeat' (first | (with_reducible first | assumption | exact Acc.refl _ | refine Acc.alloc ?_ _ | refine Acc.setCell ?_ ?_ _) | (refine leB ?_; omega)))))).mono ?_
         rintro e W5 ⟨rfl, hb⟩
         obtain ⟨Ba, Bc, Bo, Bw, Bqs, Brs⟩ : Blk W5 (W0.heap.size) [.int .i64 a1, .int .i64 a2, .int .i64 a3, .int .i64 b1, .int .i64 b2, .int .i64 b3, .int .i64 c1, .int .i64 c2, .int .i64 c3, .int .i64 d1, .int .i64 d2, .int .i64 d3] ∧ Blk W5 (W0.heap.size + 1) [.int .i64 q1, .int .i64 q2, .int .i64 q3] ∧ Blk W5 (W1.heap.size) [.int .i64 s1, .int .i64 s2, .int .i64 s3, .int .i64 t1, .int .i64 t2, .int .i64 t3, .int .i64 u1, .int .i64 u2, .int .i64 u3, .int .i64 v1, .int .i64 v2, .int .i64 v3] ∧ Blk W5 (W2.heap.size) [.int .i64 s1, .int .i64 s2, .int .i64 s3, .int .i64 t1, .int .i64 t2, .int .i64 t3, .int .i64 u1, .int .i64 u2, .int .i64 u3, .int .i64 v1, .int .i64 v2, .int .i64 v3] ∧ Blk W5 (W3.heap.size) [.int .i64 e1, .int .i64 e2, .int .i64 e3] ∧ Blk W5 (W4.heap.size) [.int .i64 f1, .int .i64 f2, .int .i64 f3] := by
           refine ⟨?_, ?_, ?_, ?_, ?_, ?_⟩ <;> refine Blk.keep hb ?_ <;> (repeat' (first | (with_reducible first | assumption | apply Blk.set | (refine Blk.new ?_; focus (first | rfl | (simp; done))) | refine Blk.alloc ?_ _ | refine Blk.other ?_ ?_ _) | exact eqL rfl | (refine neB ?_; omega)))
         have ca := Ba.cell
         have fa := Ba.free
         have la_W5 := Ba.lt
         have cc := Bc.cell
         have fc := Bc.free
         have lc_W5 := Bc.lt
         have co := Bo.cell
         have fo := Bo.free
         have lo_W5 := Bo.lt
         have cw := Bw.cell
         have fw := Bw.free
         have lw_W5 := Bw.lt
         have cqs := Bqs.cell
         have fqs := Bqs.free
         have lqs_W5 := Bqs.lt
         have crs := Brs.cell
         have frs := Brs.free
         have lrs_W5 := Brs.lt
         have kaW5 : Acc w W5 := by
           refine Acc.call ?_ hb
           (repeat' (first | (with_reducible first | assumption | exact Acc.refl _ | refine Acc.alloc ?_ _ | refine Acc.setCell ?_ ?_ _) | (refine leB ?_; omega)))
         clear hb
         go_wp2_with fail
         all_goals
           go_ret
           refine ⟨by first | rfl | (simp [*]; done) | (simp [go_sem, *]; done), ?_⟩
           show Acc w _
           (repeat' (first | (with_reducible first | assumption | exact Acc.refl _ | refine Acc.alloc ?_ _ | refine Acc.setCell ?_ ?_ _) | (refine leB ?_; omega)))
       | true =>
         have HA := Lib.hid hl5
         have hB := stimes_light HO.out (by omega) hl5 HQS.out HRS.out
         have HB := Lib.hid hB
         clear hB
         clear hl5
         go_wp2_with fail
         refine (valid_at HA.out (implLight_any a1 a2 a3 b1 b2 b3 c1 c2 c3 d1 d2 d3 ha1 ha2 ha3 hb1 hb2 hb3 hc1 hc2 hc3 hd1 hd2 hd3 _ (HL.out _ (by repeat' (first | (with_reducible first | assumption | exact Acc.refl _ | refine Acc.alloc ?_ _ | refine Acc.setCell ?_ ?_ _) | (refine leB ?_; omega)))))).mono ?_
         rintro e W5 ⟨rfl, hb⟩
         obtain ⟨Ba, Bc, Bo, Bw, Bqs, Brs⟩ : Blk W5 (W0.heap.size) [.int .i64 a1, .int .i64 a2, .int .i64 a3, .int .i64 b1, .int .i64 b2, .int .i64 b3, .int .i64 c1, .int .i64 c2, .int .i64 c3, .int .i64 d1, .int .i64 d2, .int .i64 d3] ∧ Blk W5 (W0.heap.size + 1) [.int .i64 q1, .int .i64 q2, .int .i64 q3] ∧ Blk W5 (W1.heap.size) [.int .i64 s1, .int .i64 s2, .int .i64 s3, .int .i64 t1, .int .i64 t2, .int .i64 t3, .int .i64 u1, .int .i64 u2, .int .i64 u3, .int .i64 v1, .int .i64 v2, .int .i64 v3] ∧ Blk W5 (W2.heap.size) [.int .i64 s1, .int .i64 s2, .int .i64 s3, .int .i64 t1, .int .i64 t2, .int .i64 t3, .int .i64 u1, .int .i64 u2, .int .i64 u3, .int .i64 v1, .int .i64 v2, .int .i64 v3] ∧ Blk W5 (W3.heap.size) [.int .i64 e1, .int .i64 e2, .int .i64 e3] ∧ Blk W5 (W4.heap.size) [.int .i64 f1, .int .i64 f2, .int .i64 f3] := by
           refine ⟨?_, ?_, ?_, ?_, ?_, ?_⟩ <;> refine Blk.keep hb ?_ <;> (repeat' (first | (with_reducible first | assumption | apply Blk.set | (refine Blk.new ?_; focus (first | rfl | (simp; done))) | refine Blk.alloc ?_ _ | refine Blk.other ?_ ?_ _) | exact eqL rfl | (refine neB ?_; omega)))
         have ca := Ba.cell
         have fa := Ba.free
         have la_W5 := Ba.lt
         have cc := Bc.cell
         have fc := Bc.free
         have lc_W5 := Bc.lt
         have co := Bo.cell
         have fo := Bo.free
         have lo_W5 := Bo.lt
         have cw := Bw.cell
         have fw := Bw.free
         have lw_W5 := Bw.lt
         have cqs := Bqs.cell
         have fqs := Bqs.free
         have lqs_W5 := Bqs.lt
         have crs := Brs.cell
         have frs := Brs.free
         have lrs_W5 := Brs.lt
         have kaW5 : Acc w W5 := by
           refine Acc.call ?_ hb
           (repeat' (first | (with_reducible first | assumption | exact Acc.refl _ | refine Acc.alloc ?_ _ | refine Acc.setCell ?_ ?_ _) | (refine leB ?_; omega)))
         clear hb
         go_wp2_with fail
         refine (valid_at HB.out (implLight_any s1 s2 s3 t1 t2 t3 u1 u2 u3 v1 v2 v3 hs1 hs2 hs3 ht1 ht2 ht3 hu1 hu2 hu3 hv1 hv2 hv3 _ (HL.out _ (by repeat' (first | (with_reducible first | assumption | exact Acc.refl _ | refine Acc.alloc ?_ _ | refine Acc.setCell ?_ ?_ _) | (refine leB ?_; omega)))))).mono ?_
         rintro e W6 ⟨rfl, hb⟩
         obtain ⟨Ba, Bc, Bo, Bw, Bqs, Brs⟩ : Blk W6 (W0.heap.size) [.int .i64 a1, .int .i64 a2, .int .i64 a3, .int .i64 b1, .int .i64 b2, .int .i64 b3, .int .i64 c1, .int .i64 c2, .int .i64 c3, .int .i64 d1, .int .i64 d2, .int .i64 d3] ∧ Blk W6 (W0.heap.size + 1) [.int .i64 q1, .int .i64 q2, .int .i64 q3] ∧ Blk W6 (W1.heap.size) [.int .i64 s1, .int .i64 s2, .int .i64 s3, .int .i64 t1, .int .i64 t2, .int .i64 t3, .int .i64 u1, .int .i64 u2, .int .i64 u3, .int .i64 v1, .int .i64 v2, .int .i64 v3] ∧ Blk W6 (W2.heap.size) [.int .i64 s1, .int .i64 s2, .int .i64 s3, .int .i64 t1, .int .i64 t2, .int .i64 t3, .int .i64 u1, .int .i64 u2, .int .i64 u3, .int .i64 v1, .int .i64 v2, .int .i64 v3] ∧ Blk W6 (W3.heap.size) [.int .i64 e1, .int .i64 e2, .int .i64 e3] ∧ Blk W6 (W4.heap.size) [.int .i64 f1, .int .i64 f2, .int .i64 f3] := by
           refine ⟨?_, ?_, ?_, ?_, ?_, ?_⟩ <;> refine Blk.keep hb ?_ <;> (repeat' (first | (with_reducible first | assumption | apply Blk.set | (refine Blk.new ?_; focus (first | rfl | (simp; done))) | refine Blk.alloc ?_ _ | refine Blk.other ?_ ?_ _) | exact eqL rfl | (refine neB ?_; omega)))
         have ca := Ba.cell
         have fa := Ba.free
         have la_W6 := Ba.lt
         have cc := Bc.cell
         have fc := Bc.free
         have lc_W6 := Bc.lt
         have co := Bo.cell
         have fo := Bo.free
         have lo_W6 := Bo.lt
         have cw := Bw.cell
         have fw := Bw.free
         have lw_W6 := Bw.lt
         have cqs := Bqs.cell
         have fqs := Bqs.free
         have lqs_W6 := Bqs.lt
         have crs := Brs.cell
         have frs := Brs.free
         have lrs_W6 := Brs.lt
         have kaW6 : Acc w W6 := by
           refine Acc.call ?_ hb
           (repeat' (first | (with_reducible first | assumption | exact Acc.refl _ | refine Acc.alloc ?_ _ | refine Acc.setCell ?_ ?_ _) | (refine leB ?_; omega)))
         clear hb
         go_wp2_with fail
         all_goals
           go_ret
           refine ⟨by first | rfl | (simp [*]; done) | (simp [go_sem, *]; done), ?_⟩
           show Acc w _
           (repeat' (first | (with_reducible first | assumption | exact Acc.refl _ | refine Acc.alloc ?_ _ | refine Acc.setCell ?_ ?_ _) | (refine leB ?_; omega)))
end Go.Proofs.YtedigdakgjaedabDoor
