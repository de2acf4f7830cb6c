/-
  The law of four numbers of vectors.
-/
import Derived.Test.YtedigdakgjaedabDoorDrawStokes2
import Derived.Test.YtedigdakgjaedabDoorStokesMath5
import Derived.Test.YtedigdakgjaedabDoorBImplF
import Derived.Test.YtedigdakgjaedabDoorGave6
import Derived.Test.YtedigdakgjaedabDoorGave12
import Derived.Test.YtedigdakgjaedabDoorEqStokes
import Derived.Test.YtedigdakgjaedabDoorImplE1
import Derived.Test.YtedigdakgjaedabDoorImplE2
import Derived.Test.YtedigdakgjaedabDoorImplJ1
import Derived.Test.YtedigdakgjaedabDoorImplJ3
import Derived.Test.YtedigdakgjaedabDoorSpecS3
namespace Go.Proofs.YtedigdakgjaedabDoor
open Go.ChangeShapes Go.WideShapes Go.ChangeAt Go.RowKit
set_option linter.unusedVariables false

set_option maxRecDepth 100000 in
set_option maxHeartbeats 16000000 in
theorem fnStokesOf_law (w : World) (hl : Laid w) (s : Option Addr) (len cap : Nat) (h : Code8 w s len cap) :
    Calls Tryd.prog 7 #[.slice s len cap] w (Fine w) := by
  have hm := h.2.1
  have hl' := h.1
  unfold maxLen at hm
  have HL := Lib.hid fun W (k : Acc w W) => hl.acc k
  clear hl
  by_cases hlen : 1048576 < len
  · clear h
    have hlen' : (1048576 : Int) < (len : Int) := by omega
    go_enter Tryd.func7, Tryd.ntmps7
    go_wp2_with fail
    go_ret
    exact ⟨rfl, Below.refl _ _⟩
  have hlen' : ¬ (1048576 : Int) < (len : Int) := by omega
  go_enter Tryd.func7, Tryd.ntmps7
  go_wp2_with fail
  refine (drawStokesOf_any s len cap w h).mono ?_
  rintro e W0 ⟨x1, x2, x3, y1, y2, y3, rfl, hx1, hx2, hx3, hy1, hy2, hy3, hb⟩
  have kaW0 : Acc w W0 := hb
  clear hb h
  go_wp2_with fail
  cases ho : sofF x1 x2 x3 y1 y2 y3 with
  | none =>
   have HO := Lib.hid ho
   clear ho
   have qst0 := eqStSame 0 0 0 0 0 0 0 0 0 0 0 0
   refine (gave12_none HO.out (implSOf_any x1 x2 x3 y1 y2 y3 hx1 hx2 hx3 hy1 hy2 hy3 _ (HL.out _ (by repeat' (first | (with_reducible first | assumption | exact Acc.refl _ | refine Acc.alloc ?_ _ | refine Acc.setCell ?_ ?_ _) | (refine leB ?_; omega)))))).mono ?_
   rintro e W1 ⟨rfl, hb⟩
   have Ba : Blk W1 (W0.heap.size) [.int .i64 x1, .int .i64 x2, .int .i64 x3, .int .i64 y1, .int .i64 y2, .int .i64 y3] := Blk.keep hb (by repeat' (first | (with_reducible first | assumption | apply Blk.set | (refine Blk.new ?_; focus (first | rfl | (simp; done))) | refine Blk.alloc ?_ _ | refine Blk.other ?_ ?_ _) | exact eqL rfl | (refine neB ?_; omega)))
   have ca := Ba.cell
   have fa := Ba.free
   have la_W1 := Ba.lt
   have kaW1 : Acc w W1 := by
     refine Acc.call ?_ hb
     (repeat' (first | (with_reducible first | assumption | exact Acc.refl _ | refine Acc.alloc ?_ _ | refine Acc.setCell ?_ ?_ _) | (refine leB ?_; omega)))
   clear hb
   go_wp2_with fail
   refine (gave12_none HO.out (specSOf_any x1 x2 x3 y1 y2 y3 _)).mono ?_
   rintro e W2 ⟨rfl, hb⟩
   obtain ⟨Ba, Bo⟩ : Blk W2 (W0.heap.size) [.int .i64 x1, .int .i64 x2, .int .i64 x3, .int .i64 y1, .int .i64 y2, .int .i64 y3] ∧ Blk W2 (W1.heap.size) [.int .i64 0, .int .i64 0, .int .i64 0, .int .i64 0, .int .i64 0, .int .i64 0, .int .i64 0, .int .i64 0, .int .i64 0, .int .i64 0, .int .i64 0, .int .i64 0] := by
     refine ⟨?_, ?_⟩ <;> refine Blk.keep hb ?_ <;> (repeat' (first | (with_reducible first | assumption | apply Blk.set | (refine Blk.new ?_; focus (first | rfl | (simp; done))) | refine Blk.alloc ?_ _ | refine Blk.other ?_ ?_ _) | exact eqL rfl | (refine neB ?_; omega)))
   have ca := Ba.cell
   have fa := Ba.free
   have la_W2 := Ba.lt
   have co := Bo.cell
   have fo := Bo.free
   have lo_W2 := Bo.lt
   have kaW2 : Acc w W2 := by
     refine Acc.call ?_ hb
     (repeat' (first | (with_reducible first | assumption | exact Acc.refl _ | refine Acc.alloc ?_ _ | refine Acc.setCell ?_ ?_ _) | (refine leB ?_; omega)))
   clear hb
   go_wp2_with fail
   all_goals
     go_ret
     refine ⟨by first | rfl | (simp [*]; done) | (simp [go_sem, *]; done), ?_⟩
     show Acc w _
     (repeat' (first | (with_reducible first | assumption | exact Acc.refl _ | refine Acc.alloc ?_ _ | refine Acc.setCell ?_ ?_ _) | (refine leB ?_; omega)))
  | some v =>
   obtain ⟨⟨s1, s2, s3⟩, ⟨t1, t2, t3⟩, ⟨u1, u2, u3⟩, v1, v2, v3⟩ := v
   obtain ⟨hs1, hs2, hs3⟩ := okF_i64 (sof_ok ho).1
   obtain ⟨ht1, ht2, ht3⟩ := okF_i64 (sof_ok ho).2.1
   obtain ⟨hu1, hu2, hu3⟩ := okF_i64 (sof_ok ho).2.2.1
   obtain ⟨hv1, hv2, hv3⟩ := okF_i64 (sof_ok ho).2.2.2
   have HO := Lib.hid ho
   have HP := Lib.hid (sof_power ho)
   have qst0 := eqStSame s1 s2 s3 t1 t2 t3 u1 u2 u3 v1 v2 v3
   refine (gave12_some HO.out (implSOf_any x1 x2 x3 y1 y2 y3 hx1 hx2 hx3 hy1 hy2 hy3 _ (HL.out _ (by repeat' (first | (with_reducible first | assumption | exact Acc.refl _ | refine Acc.alloc ?_ _ | refine Acc.setCell ?_ ?_ _) | (refine leB ?_; omega)))))).mono ?_
   rintro e W1 ⟨rfl, hb⟩
   have Ba : Blk W1 (W0.heap.size) [.int .i64 x1, .int .i64 x2, .int .i64 x3, .int .i64 y1, .int .i64 y2, .int .i64 y3] := Blk.keep hb (by repeat' (first | (with_reducible first | assumption | apply Blk.set | (refine Blk.new ?_; focus (first | rfl | (simp; done))) | refine Blk.alloc ?_ _ | refine Blk.other ?_ ?_ _) | exact eqL rfl | (refine neB ?_; omega)))
   have ca := Ba.cell
   have fa := Ba.free
   have la_W1 := Ba.lt
   have kaW1 : Acc w W1 := by
     refine Acc.call ?_ hb
     (repeat' (first | (with_reducible first | assumption | exact Acc.refl _ | refine Acc.alloc ?_ _ | refine Acc.setCell ?_ ?_ _) | (refine leB ?_; omega)))
   clear hb
   go_wp2_with fail
   refine (gave12_some HO.out (specSOf_any x1 x2 x3 y1 y2 y3 _)).mono ?_
   rintro e W2 ⟨rfl, hb⟩
   obtain ⟨Ba, Bo⟩ : Blk W2 (W0.heap.size) [.int .i64 x1, .int .i64 x2, .int .i64 x3, .int .i64 y1, .int .i64 y2, .int .i64 y3] ∧ Blk W2 (W1.heap.size) [.int .i64 s1, .int .i64 s2, .int .i64 s3, .int .i64 t1, .int .i64 t2, .int .i64 t3, .int .i64 u1, .int .i64 u2, .int .i64 u3, .int .i64 v1, .int .i64 v2, .int .i64 v3] := by
     refine ⟨?_, ?_⟩ <;> refine Blk.keep hb ?_ <;> (repeat' (first | (with_reducible first | assumption | apply Blk.set | (refine Blk.new ?_; focus (first | rfl | (simp; done))) | refine Blk.alloc ?_ _ | refine Blk.other ?_ ?_ _) | exact eqL rfl | (refine neB ?_; omega)))
   have ca := Ba.cell
   have fa := Ba.free
   have la_W2 := Ba.lt
   have co := Bo.cell
   have fo := Bo.free
   have lo_W2 := Bo.lt
   have kaW2 : Acc w W2 := by
     refine Acc.call ?_ hb
     (repeat' (first | (with_reducible first | assumption | exact Acc.refl _ | refine Acc.alloc ?_ _ | refine Acc.setCell ?_ ?_ _) | (refine leB ?_; omega)))
   clear hb
   go_wp2_with fail
   refine (gave_some HP.out (implJPower_any x1 x2 x3 y1 y2 y3 hx1 hx2 hx3 hy1 hy2 hy3 _ (HL.out _ (by repeat' (first | (with_reducible first | assumption | exact Acc.refl _ | refine Acc.alloc ?_ _ | refine Acc.setCell ?_ ?_ _) | (refine leB ?_; omega)))))).mono ?_
   rintro e W3 ⟨rfl, hb⟩
   obtain ⟨Ba, Bo, Bw⟩ : Blk W3 (W0.heap.size) [.int .i64 x1, .int .i64 x2, .int .i64 x3, .int .i64 y1, .int .i64 y2, .int .i64 y3] ∧ Blk W3 (W1.heap.size) [.int .i64 s1, .int .i64 s2, .int .i64 s3, .int .i64 t1, .int .i64 t2, .int .i64 t3, .int .i64 u1, .int .i64 u2, .int .i64 u3, .int .i64 v1, .int .i64 v2, .int .i64 v3] ∧ Blk W3 (W2.heap.size) [.int .i64 s1, .int .i64 s2, .int .i64 s3, .int .i64 t1, .int .i64 t2, .int .i64 t3, .int .i64 u1, .int .i64 u2, .int .i64 u3, .int .i64 v1, .int .i64 v2, .int .i64 v3] := by
     refine ⟨?_, ?_, ?_⟩ <;> refine Blk.keep hb ?_ <;> (repeat' (first | (with_reducible first | assumption | apply Blk.set | (refine Blk.new ?_; focus (first | rfl | (simp; done))) | refine Blk.alloc ?_ _ | refine Blk.other ?_ ?_ _) | exact eqL rfl | (refine neB ?_; omega)))
   have ca := Ba.cell
   have fa := Ba.free
   have la_W3 := Ba.lt
   have co := Bo.cell
   have fo := Bo.free
   have lo_W3 := Bo.lt
   have cw := Bw.cell
   have fw := Bw.free
   have lw_W3 := Bw.lt
   have kaW3 : Acc w W3 := by
     refine Acc.call ?_ hb
     (repeat' (first | (with_reducible first | assumption | exact Acc.refl _ | refine Acc.alloc ?_ _ | refine Acc.setCell ?_ ?_ _) | (refine leB ?_; omega)))
   clear hb
   go_wp2_with fail
   cases ht : squaresF s1 s2 s3 t1 t2 t3 u1 u2 u3 v1 v2 v3 with
   | none =>
    have HQS := Lib.hid ht
    clear ht
    refine (gave_none HQS.out (implSquares_any s1 s2 s3 t1 t2 t3 u1 u2 u3 v1 v2 v3 hs1 hs2 hs3 ht1 ht2 ht3 hu1 hu2 hu3 hv1 hv2 hv3 _ (HL.out _ (by repeat' (first | (with_reducible first | assumption | exact Acc.refl _ | refine Acc.alloc ?_ _ | refine Acc.setCell ?_ ?_ _) | (refine leB ?_; omega)))))).mono ?_
    rintro e W4 ⟨rfl, hb⟩
    obtain ⟨Ba, Bo, Bw, Bn⟩ : Blk W4 (W0.heap.size) [.int .i64 x1, .int .i64 x2, .int .i64 x3, .int .i64 y1, .int .i64 y2, .int .i64 y3] ∧ Blk W4 (W1.heap.size) [.int .i64 s1, .int .i64 s2, .int .i64 s3, .int .i64 t1, .int .i64 t2, .int .i64 t3, .int .i64 u1, .int .i64 u2, .int .i64 u3, .int .i64 v1, .int .i64 v2, .int .i64 v3] ∧ Blk W4 (W2.heap.size) [.int .i64 s1, .int .i64 s2, .int .i64 s3, .int .i64 t1, .int .i64 t2, .int .i64 t3, .int .i64 u1, .int .i64 u2, .int .i64 u3, .int .i64 v1, .int .i64 v2, .int .i64 v3] ∧ Blk W4 (W3.heap.size) [.int .i64 s1, .int .i64 s2, .int .i64 s3] := by
      refine ⟨?_, ?_, ?_, ?_⟩ <;> refine Blk.keep hb ?_ <;> (repeat' (first | (with_reducible first | assumption | apply Blk.set | (refine Blk.new ?_; focus (first | rfl | (simp; done))) | refine Blk.alloc ?_ _ | refine Blk.other ?_ ?_ _) | exact eqL rfl | (refine neB ?_; omega)))
    have ca := Ba.cell
    have fa := Ba.free
    have la_W4 := Ba.lt
    have co := Bo.cell
    have fo := Bo.free
    have lo_W4 := Bo.lt
    have cw := Bw.cell
    have fw := Bw.free
    have lw_W4 := Bw.lt
    have cn := Bn.cell
    have fn := Bn.free
    have ln_W4 := Bn.lt
    have kaW4 : Acc w W4 := by
      refine Acc.call ?_ hb
      (repeat' (first | (with_reducible first | assumption | exact Acc.refl _ | refine Acc.alloc ?_ _ | refine Acc.setCell ?_ ?_ _) | (refine leB ?_; omega)))
    clear hb
    go_wp2_with fail
    obtain ⟨⟨f1, f2, f3⟩, hv⟩ : ∃ o, partsR (timesF s1 s2 s3 s1 s2 s3) = o := ⟨_, rfl⟩
    obtain ⟨krs, hk⟩ : ∃ k, okR (timesF s1 s2 s3 s1 s2 s3) = k := ⟨_, rfl⟩
    obtain ⟨hf1, hf2, hf3⟩ := parts_i64 (fun _ _ _ h => times_ok h) hv
    have HV := Lib.hid hv
    have HK := Lib.hid hk
    clear hv hk
    refine (gave_any HV.out HK.out (implTimes_any s1 s2 s3 s1 s2 s3 hs1 hs2 hs3 hs1 hs2 hs3 _ (HL.out _ (by repeat' (first | (with_reducible first | assumption | exact Acc.refl _ | refine Acc.alloc ?_ _ | refine Acc.setCell ?_ ?_ _) | (refine leB ?_; omega)))))).mono ?_
    rintro e W5 ⟨rfl, hb⟩
    obtain ⟨Ba, Bo, Bw, Bn, Bqs⟩ : Blk W5 (W0.heap.size) [.int .i64 x1, .int .i64 x2, .int .i64 x3, .int .i64 y1, .int .i64 y2, .int .i64 y3] ∧ Blk W5 (W1.heap.size) [.int .i64 s1, .int .i64 s2, .int .i64 s3, .int .i64 t1, .int .i64 t2, .int .i64 t3, .int .i64 u1, .int .i64 u2, .int .i64 u3, .int .i64 v1, .int .i64 v2, .int .i64 v3] ∧ Blk W5 (W2.heap.size) [.int .i64 s1, .int .i64 s2, .int .i64 s3, .int .i64 t1, .int .i64 t2, .int .i64 t3, .int .i64 u1, .int .i64 u2, .int .i64 u3, .int .i64 v1, .int .i64 v2, .int .i64 v3] ∧ Blk W5 (W3.heap.size) [.int .i64 s1, .int .i64 s2, .int .i64 s3] ∧ Blk W5 (W4.heap.size) [.int .i64 0, .int .i64 0, .int .i64 0] := by
      refine ⟨?_, ?_, ?_, ?_, ?_⟩ <;> refine Blk.keep hb ?_ <;> (repeat' (first | (with_reducible first | assumption | apply Blk.set | (refine Blk.new ?_; focus (first | rfl | (simp; done))) | refine Blk.alloc ?_ _ | refine Blk.other ?_ ?_ _) | exact eqL rfl | (refine neB ?_; omega)))
    have ca := Ba.cell
    have fa := Ba.free
    have la_W5 := Ba.lt
    have co := Bo.cell
    have fo := Bo.free
    have lo_W5 := Bo.lt
    have cw := Bw.cell
    have fw := Bw.free
    have lw_W5 := Bw.lt
    have cn := Bn.cell
    have fn := Bn.free
    have ln_W5 := Bn.lt
    have cqs := Bqs.cell
    have fqs := Bqs.free
    have lqs_W5 := Bqs.lt
    have kaW5 : Acc w W5 := by
      refine Acc.call ?_ hb
      (repeat' (first | (with_reducible first | assumption | exact Acc.refl _ | refine Acc.alloc ?_ _ | refine Acc.setCell ?_ ?_ _) | (refine leB ?_; omega)))
    clear hb
    go_wp2_with fail
    cases hj : jtimesF x1 x2 x3 y1 y2 y3 0 1 1 with
    | none =>
     have HJ := Lib.hid hj
     clear hj ho
     refine (gave6_none HJ.out (implJTimes_any x1 x2 x3 y1 y2 y3 0 1 1 hx1 hx2 hx3 hy1 hy2 hy3 i64_0 i64_1 i64_1 _ (HL.out _ (by repeat' (first | (with_reducible first | assumption | exact Acc.refl _ | refine Acc.alloc ?_ _ | refine Acc.setCell ?_ ?_ _) | (refine leB ?_; omega)))))).mono ?_
     rintro e W6 ⟨rfl, hb⟩
     obtain ⟨Ba, Bo, Bw, Bn, Bqs, Brs⟩ : Blk W6 (W0.heap.size) [.int .i64 x1, .int .i64 x2, .int .i64 x3, .int .i64 y1, .int .i64 y2, .int .i64 y3] ∧ Blk W6 (W1.heap.size) [.int .i64 s1, .int .i64 s2, .int .i64 s3, .int .i64 t1, .int .i64 t2, .int .i64 t3, .int .i64 u1, .int .i64 u2, .int .i64 u3, .int .i64 v1, .int .i64 v2, .int .i64 v3] ∧ Blk W6 (W2.heap.size) [.int .i64 s1, .int .i64 s2, .int .i64 s3, .int .i64 t1, .int .i64 t2, .int .i64 t3, .int .i64 u1, .int .i64 u2, .int .i64 u3, .int .i64 v1, .int .i64 v2, .int .i64 v3] ∧ Blk W6 (W3.heap.size) [.int .i64 s1, .int .i64 s2, .int .i64 s3] ∧ Blk W6 (W4.heap.size) [.int .i64 0, .int .i64 0, .int .i64 0] ∧ Blk W6 (W5.heap.size) [.int .i64 f1, .int .i64 f2, .int .i64 f3] := by
       refine ⟨?_, ?_, ?_, ?_, ?_, ?_⟩ <;> refine Blk.keep hb ?_ <;> (repeat' (first | (with_reducible first | assumption | apply Blk.set | (refine Blk.new ?_; focus (first | rfl | (simp; done))) | refine Blk.alloc ?_ _ | refine Blk.other ?_ ?_ _) | exact eqL rfl | (refine neB ?_; omega)))
     have ca := Ba.cell
     have fa := Ba.free
     have la_W6 := Ba.lt
     have co := Bo.cell
     have fo := Bo.free
     have lo_W6 := Bo.lt
     have cw := Bw.cell
     have fw := Bw.free
     have lw_W6 := Bw.lt
     have cn := Bn.cell
     have fn := Bn.free
     have ln_W6 := Bn.lt
     have cqs := Bqs.cell
     have fqs := Bqs.free
     have lqs_W6 := Bqs.lt
     have crs := Brs.cell
     have frs := Brs.free
     have lrs_W6 := Brs.lt
     have kaW6 : Acc w W6 := by
       refine Acc.call ?_ hb
       (repeat' (first | (with_reducible first | assumption | exact Acc.refl _ | refine Acc.alloc ?_ _ | refine Acc.setCell ?_ ?_ _) | (refine leB ?_; omega)))
     clear hb
     go_wp2_with fail
     obtain ⟨w1, w2, w3, z1, z2, z3, m1, m2, m3, n1, n2, n3, kt, ⟨hw1, hw2, hw3, hz1, hz2, hz3, hm1, hm2, hm3, hn1, hn2, hn3⟩, hg⟩ := gave12_i64 (o := sofF 0 0 0 0 0 0) (fun _ _ _ _ _ _ _ _ _ _ _ _ h => sof_ok h)
     have HG := Lib.hid hg
     clear hg
     refine (HG.out _ _ _ _ (implSOf_any 0 0 0 0 0 0 i64_0 i64_0 i64_0 i64_0 i64_0 i64_0 _ (HL.out _ (by repeat' (first | (with_reducible first | assumption | exact Acc.refl _ | refine Acc.alloc ?_ _ | refine Acc.setCell ?_ ?_ _) | (refine leB ?_; omega)))))).mono ?_
     rintro e W7 ⟨rfl, hb⟩
     obtain ⟨Ba, Bo, Bw, Bn, Bqs, Brs, Bj⟩ : Blk W7 (W0.heap.size) [.int .i64 x1, .int .i64 x2, .int .i64 x3, .int .i64 y1, .int .i64 y2, .int .i64 y3] ∧ Blk W7 (W1.heap.size) [.int .i64 s1, .int .i64 s2, .int .i64 s3, .int .i64 t1, .int .i64 t2, .int .i64 t3, .int .i64 u1, .int .i64 u2, .int .i64 u3, .int .i64 v1, .int .i64 v2, .int .i64 v3] ∧ Blk W7 (W2.heap.size) [.int .i64 s1, .int .i64 s2, .int .i64 s3, .int .i64 t1, .int .i64 t2, .int .i64 t3, .int .i64 u1, .int .i64 u2, .int .i64 u3, .int .i64 v1, .int .i64 v2, .int .i64 v3] ∧ Blk W7 (W3.heap.size) [.int .i64 s1, .int .i64 s2, .int .i64 s3] ∧ Blk W7 (W4.heap.size) [.int .i64 0, .int .i64 0, .int .i64 0] ∧ Blk W7 (W5.heap.size) [.int .i64 f1, .int .i64 f2, .int .i64 f3] ∧ Blk W7 (W6.heap.size) [.int .i64 0, .int .i64 0, .int .i64 0, .int .i64 0, .int .i64 0, .int .i64 0] := by
       refine ⟨?_, ?_, ?_, ?_, ?_, ?_, ?_⟩ <;> refine Blk.keep hb ?_ <;> (repeat' (first | (with_reducible first | assumption | apply Blk.set | (refine Blk.new ?_; focus (first | rfl | (simp; done))) | refine Blk.alloc ?_ _ | refine Blk.other ?_ ?_ _) | exact eqL rfl | (refine neB ?_; omega)))
     have ca := Ba.cell
     have fa := Ba.free
     have la_W7 := Ba.lt
     have co := Bo.cell
     have fo := Bo.free
     have lo_W7 := Bo.lt
     have cw := Bw.cell
     have fw := Bw.free
     have lw_W7 := Bw.lt
     have cn := Bn.cell
     have fn := Bn.free
     have ln_W7 := Bn.lt
     have cqs := Bqs.cell
     have fqs := Bqs.free
     have lqs_W7 := Bqs.lt
     have crs := Brs.cell
     have frs := Brs.free
     have lrs_W7 := Brs.lt
     have cj := Bj.cell
     have fj := Bj.free
     have lj_W7 := Bj.lt
     have kaW7 : Acc w W7 := by
       refine Acc.call ?_ hb
       (repeat' (first | (with_reducible first | assumption | exact Acc.refl _ | refine Acc.alloc ?_ _ | refine Acc.setCell ?_ ?_ _) | (refine leB ?_; omega)))
     clear hb
     go_wp2_with fail
     all_goals
       go_ret
       refine ⟨by first | rfl | (simp [*]; done) | (simp [go_sem, *]; done), ?_⟩
       show Acc w _
       (repeat' (first | (with_reducible first | assumption | exact Acc.refl _ | refine Acc.alloc ?_ _ | refine Acc.setCell ?_ ?_ _) | (refine leB ?_; omega)))
    | some v =>
     obtain ⟨⟨g1, g2, g3⟩, k1, k2, k3⟩ := v
     have hT := (sof_turn hj).trans ho
     obtain ⟨hg1, hg2, hg3⟩ := okF_i64 (jtimes_ok hj).1
     obtain ⟨hk1, hk2, hk3⟩ := okF_i64 (jtimes_ok hj).2
     have HJ := Lib.hid hj
     have HT := Lib.hid hT
     clear hj hT ho
     refine (gave6_some HJ.out (implJTimes_any x1 x2 x3 y1 y2 y3 0 1 1 hx1 hx2 hx3 hy1 hy2 hy3 i64_0 i64_1 i64_1 _ (HL.out _ (by repeat' (first | (with_reducible first | assumption | exact Acc.refl _ | refine Acc.alloc ?_ _ | refine Acc.setCell ?_ ?_ _) | (refine leB ?_; omega)))))).mono ?_
     rintro e W6 ⟨rfl, hb⟩
     obtain ⟨Ba, Bo, Bw, Bn, Bqs, Brs⟩ : Blk W6 (W0.heap.size) [.int .i64 x1, .int .i64 x2, .int .i64 x3, .int .i64 y1, .int .i64 y2, .int .i64 y3] ∧ Blk W6 (W1.heap.size) [.int .i64 s1, .int .i64 s2, .int .i64 s3, .int .i64 t1, .int .i64 t2, .int .i64 t3, .int .i64 u1, .int .i64 u2, .int .i64 u3, .int .i64 v1, .int .i64 v2, .int .i64 v3] ∧ Blk W6 (W2.heap.size) [.int .i64 s1, .int .i64 s2, .int .i64 s3, .int .i64 t1, .int .i64 t2, .int .i64 t3, .int .i64 u1, .int .i64 u2, .int .i64 u3, .int .i64 v1, .int .i64 v2, .int .i64 v3] ∧ Blk W6 (W3.heap.size) [.int .i64 s1, .int .i64 s2, .int .i64 s3] ∧ Blk W6 (W4.heap.size) [.int .i64 0, .int .i64 0, .int .i64 0] ∧ Blk W6 (W5.heap.size) [.int .i64 f1, .int .i64 f2, .int .i64 f3] := by
       refine ⟨?_, ?_, ?_, ?_, ?_, ?_⟩ <;> refine Blk.keep hb ?_ <;> (repeat' (first | (with_reducible first | assumption | apply Blk.set | (refine Blk.new ?_; focus (first | rfl | (simp; done))) | refine Blk.alloc ?_ _ | refine Blk.other ?_ ?_ _) | exact eqL rfl | (refine neB ?_; omega)))
     have ca := Ba.cell
     have fa := Ba.free
     have la_W6 := Ba.lt
     have co := Bo.cell
     have fo := Bo.free
     have lo_W6 := Bo.lt
     have cw := Bw.cell
     have fw := Bw.free
     have lw_W6 := Bw.lt
     have cn := Bn.cell
     have fn := Bn.free
     have ln_W6 := Bn.lt
     have cqs := Bqs.cell
     have fqs := Bqs.free
     have lqs_W6 := Bqs.lt
     have crs := Brs.cell
     have frs := Brs.free
     have lrs_W6 := Brs.lt
     have kaW6 : Acc w W6 := by
       refine Acc.call ?_ hb
       (repeat' (first | (with_reducible first | assumption | exact Acc.refl _ | refine Acc.alloc ?_ _ | refine Acc.setCell ?_ ?_ _) | (refine leB ?_; omega)))
     clear hb
     go_wp2_with fail
     refine (gave12_some HT.out (implSOf_any g1 g2 g3 k1 k2 k3 hg1 hg2 hg3 hk1 hk2 hk3 _ (HL.out _ (by repeat' (first | (with_reducible first | assumption | exact Acc.refl _ | refine Acc.alloc ?_ _ | refine Acc.setCell ?_ ?_ _) | (refine leB ?_; omega)))))).mono ?_
     rintro e W7 ⟨rfl, hb⟩
     obtain ⟨Ba, Bo, Bw, Bn, Bqs, Brs, Bj⟩ : Blk W7 (W0.heap.size) [.int .i64 x1, .int .i64 x2, .int .i64 x3, .int .i64 y1, .int .i64 y2, .int .i64 y3] ∧ Blk W7 (W1.heap.size) [.int .i64 s1, .int .i64 s2, .int .i64 s3, .int .i64 t1, .int .i64 t2, .int .i64 t3, .int .i64 u1, .int .i64 u2, .int .i64 u3, .int .i64 v1, .int .i64 v2, .int .i64 v3] ∧ Blk W7 (W2.heap.size) [.int .i64 s1, .int .i64 s2, .int .i64 s3, .int .i64 t1, .int .i64 t2, .int .i64 t3, .int .i64 u1, .int .i64 u2, .int .i64 u3, .int .i64 v1, .int .i64 v2, .int .i64 v3] ∧ Blk W7 (W3.heap.size) [.int .i64 s1, .int .i64 s2, .int .i64 s3] ∧ Blk W7 (W4.heap.size) [.int .i64 0, .int .i64 0, .int .i64 0] ∧ Blk W7 (W5.heap.size) [.int .i64 f1, .int .i64 f2, .int .i64 f3] ∧ Blk W7 (W6.heap.size) [.int .i64 g1, .int .i64 g2, .int .i64 g3, .int .i64 k1, .int .i64 k2, .int .i64 k3] := by
       refine ⟨?_, ?_, ?_, ?_, ?_, ?_, ?_⟩ <;> refine Blk.keep hb ?_ <;> (repeat' (first | (with_reducible first | assumption | apply Blk.set | (refine Blk.new ?_; focus (first | rfl | (simp; done))) | refine Blk.alloc ?_ _ | refine Blk.other ?_ ?_ _) | exact eqL rfl | (refine neB ?_; omega)))
     have ca := Ba.cell
     have fa := Ba.free
     have la_W7 := Ba.lt
     have co := Bo.cell
     have fo := Bo.free
     have lo_W7 := Bo.lt
     have cw := Bw.cell
     have fw := Bw.free
     have lw_W7 := Bw.lt
     have cn := Bn.cell
     have fn := Bn.free
     have ln_W7 := Bn.lt
     have cqs := Bqs.cell
     have fqs := Bqs.free
     have lqs_W7 := Bqs.lt
     have crs := Brs.cell
     have frs := Brs.free
     have lrs_W7 := Brs.lt
     have cj := Bj.cell
     have fj := Bj.free
     have lj_W7 := Bj.lt
     have kaW7 : Acc w W7 := by
       refine Acc.call ?_ hb
       (repeat' (first | (with_reducible first | assumption | exact Acc.refl _ | refine Acc.alloc ?_ _ | refine Acc.setCell ?_ ?_ _) | (refine leB ?_; omega)))
     clear hb
     go_wp2_with fail
     all_goals
       go_ret
       refine ⟨by first | rfl | (simp [*]; done) | (simp [go_sem, *]; done), ?_⟩
       show Acc w _
       (repeat' (first | (with_reducible first | assumption | exact Acc.refl _ | refine Acc.alloc ?_ _ | refine Acc.setCell ?_ ?_ _) | (refine leB ?_; omega)))
   | some v =>
    obtain ⟨e1, e2, e3⟩ := v
    obtain ⟨he1, he2, he3⟩ := okF_i64 (squares_ok ht)
    have HQS := Lib.hid ht
    clear ht
    refine (gave_some HQS.out (implSquares_any s1 s2 s3 t1 t2 t3 u1 u2 u3 v1 v2 v3 hs1 hs2 hs3 ht1 ht2 ht3 hu1 hu2 hu3 hv1 hv2 hv3 _ (HL.out _ (by repeat' (first | (with_reducible first | assumption | exact Acc.refl _ | refine Acc.alloc ?_ _ | refine Acc.setCell ?_ ?_ _) | (refine leB ?_; omega)))))).mono ?_
    rintro e W4 ⟨rfl, hb⟩
    obtain ⟨Ba, Bo, Bw, Bn⟩ : Blk W4 (W0.heap.size) [.int .i64 x1, .int .i64 x2, .int .i64 x3, .int .i64 y1, .int .i64 y2, .int .i64 y3] ∧ Blk W4 (W1.heap.size) [.int .i64 s1, .int .i64 s2, .int .i64 s3, .int .i64 t1, .int .i64 t2, .int .i64 t3, .int .i64 u1, .int .i64 u2, .int .i64 u3, .int .i64 v1, .int .i64 v2, .int .i64 v3] ∧ Blk W4 (W2.heap.size) [.int .i64 s1, .int .i64 s2, .int .i64 s3, .int .i64 t1, .int .i64 t2, .int .i64 t3, .int .i64 u1, .int .i64 u2, .int .i64 u3, .int .i64 v1, .int .i64 v2, .int .i64 v3] ∧ Blk W4 (W3.heap.size) [.int .i64 s1, .int .i64 s2, .int .i64 s3] := by
      refine ⟨?_, ?_, ?_, ?_⟩ <;> refine Blk.keep hb ?_ <;> (repeat' (first | (with_reducible first | assumption | apply Blk.set | (refine Blk.new ?_; focus (first | rfl | (simp; done))) | refine Blk.alloc ?_ _ | refine Blk.other ?_ ?_ _) | exact eqL rfl | (refine neB ?_; omega)))
    have ca := Ba.cell
    have fa := Ba.free
    have la_W4 := Ba.lt
    have co := Bo.cell
    have fo := Bo.free
    have lo_W4 := Bo.lt
    have cw := Bw.cell
    have fw := Bw.free
    have lw_W4 := Bw.lt
    have cn := Bn.cell
    have fn := Bn.free
    have ln_W4 := Bn.lt
    have kaW4 : Acc w W4 := by
      refine Acc.call ?_ hb
      (repeat' (first | (with_reducible first | assumption | exact Acc.refl _ | refine Acc.alloc ?_ _ | refine Acc.setCell ?_ ?_ _) | (refine leB ?_; omega)))
    clear hb
    go_wp2_with fail
    cases ht : timesF s1 s2 s3 s1 s2 s3 with
    | none =>
     have HRS := Lib.hid ht
     clear ht
     refine (gave_none HRS.out (implTimes_any s1 s2 s3 s1 s2 s3 hs1 hs2 hs3 hs1 hs2 hs3 _ (HL.out _ (by repeat' (first | (with_reducible first | assumption | exact Acc.refl _ | refine Acc.alloc ?_ _ | refine Acc.setCell ?_ ?_ _) | (refine leB ?_; omega)))))).mono ?_
     rintro e W5 ⟨rfl, hb⟩
     obtain ⟨Ba, Bo, Bw, Bn, Bqs⟩ : Blk W5 (W0.heap.size) [.int .i64 x1, .int .i64 x2, .int .i64 x3, .int .i64 y1, .int .i64 y2, .int .i64 y3] ∧ Blk W5 (W1.heap.size) [.int .i64 s1, .int .i64 s2, .int .i64 s3, .int .i64 t1, .int .i64 t2, .int .i64 t3, .int .i64 u1, .int .i64 u2, .int .i64 u3, .int .i64 v1, .int .i64 v2, .int .i64 v3] ∧ Blk W5 (W2.heap.size) [.int .i64 s1, .int .i64 s2, .int .i64 s3, .int .i64 t1, .int .i64 t2, .int .i64 t3, .int .i64 u1, .int .i64 u2, .int .i64 u3, .int .i64 v1, .int .i64 v2, .int .i64 v3] ∧ Blk W5 (W3.heap.size) [.int .i64 s1, .int .i64 s2, .int .i64 s3] ∧ Blk W5 (W4.heap.size) [.int .i64 e1, .int .i64 e2, .int .i64 e3] := by
       refine ⟨?_, ?_, ?_, ?_, ?_⟩ <;> refine Blk.keep hb ?_ <;> (repeat' (first | (with_reducible first | assumption | apply Blk.set | (refine Blk.new ?_; focus (first | rfl | (simp; done))) | refine Blk.alloc ?_ _ | refine Blk.other ?_ ?_ _) | exact eqL rfl | (refine neB ?_; omega)))
     have ca := Ba.cell
     have fa := Ba.free
     have la_W5 := Ba.lt
     have co := Bo.cell
     have fo := Bo.free
     have lo_W5 := Bo.lt
     have cw := Bw.cell
     have fw := Bw.free
     have lw_W5 := Bw.lt
     have cn := Bn.cell
     have fn := Bn.free
     have ln_W5 := Bn.lt
     have cqs := Bqs.cell
     have fqs := Bqs.free
     have lqs_W5 := Bqs.lt
     have kaW5 : Acc w W5 := by
       refine Acc.call ?_ hb
       (repeat' (first | (with_reducible first | assumption | exact Acc.refl _ | refine Acc.alloc ?_ _ | refine Acc.setCell ?_ ?_ _) | (refine leB ?_; omega)))
     clear hb
     go_wp2_with fail
     cases hj : jtimesF x1 x2 x3 y1 y2 y3 0 1 1 with
     | none =>
      have HJ := Lib.hid hj
      clear hj ho
      refine (gave6_none HJ.out (implJTimes_any x1 x2 x3 y1 y2 y3 0 1 1 hx1 hx2 hx3 hy1 hy2 hy3 i64_0 i64_1 i64_1 _ (HL.out _ (by repeat' (first | (with_reducible first | assumption | exact Acc.refl _ | refine Acc.alloc ?_ _ | refine Acc.setCell ?_ ?_ _) | (refine leB ?_; omega)))))).mono ?_
      rintro e W6 ⟨rfl, hb⟩
      obtain ⟨Ba, Bo, Bw, Bn, Bqs, Brs⟩ : Blk W6 (W0.heap.size) [.int .i64 x1, .int .i64 x2, .int .i64 x3, .int .i64 y1, .int .i64 y2, .int .i64 y3] ∧ Blk W6 (W1.heap.size) [.int .i64 s1, .int .i64 s2, .int .i64 s3, .int .i64 t1, .int .i64 t2, .int .i64 t3, .int .i64 u1, .int .i64 u2, .int .i64 u3, .int .i64 v1, .int .i64 v2, .int .i64 v3] ∧ Blk W6 (W2.heap.size) [.int .i64 s1, .int .i64 s2, .int .i64 s3, .int .i64 t1, .int .i64 t2, .int .i64 t3, .int .i64 u1, .int .i64 u2, .int .i64 u3, .int .i64 v1, .int .i64 v2, .int .i64 v3] ∧ Blk W6 (W3.heap.size) [.int .i64 s1, .int .i64 s2, .int .i64 s3] ∧ Blk W6 (W4.heap.size) [.int .i64 e1, .int .i64 e2, .int .i64 e3] ∧ Blk W6 (W5.heap.size) [.int .i64 0, .int .i64 0, .int .i64 0] := by
        refine ⟨?_, ?_, ?_, ?_, ?_, ?_⟩ <;> refine Blk.keep hb ?_ <;> (repeat' (first | (with_reducible first | assumption | apply Blk.set | (refine Blk.new ?_; focus (first | rfl | (simp; done))) | refine Blk.alloc ?_ _ | refine Blk.other ?_ ?_ _) | exact eqL rfl | (refine neB ?_; omega)))
      have ca := Ba.cell
      have fa := Ba.free
      have la_W6 := Ba.lt
      have co := Bo.cell
      have fo := Bo.free
      have lo_W6 := Bo.lt
      have cw := Bw.cell
      have fw := Bw.free
      have lw_W6 := Bw.lt
      have cn := Bn.cell
      have fn := Bn.free
      have ln_W6 := Bn.lt
      have cqs := Bqs.cell
      have fqs := Bqs.free
      have lqs_W6 := Bqs.lt
      have crs := Brs.cell
      have frs := Brs.free
      have lrs_W6 := Brs.lt
      have kaW6 : Acc w W6 := by
        refine Acc.call ?_ hb
        (repeat' (first | (with_reducible first | assumption | exact Acc.refl _ | refine Acc.alloc ?_ _ | refine Acc.setCell ?_ ?_ _) | (refine leB ?_; omega)))
      clear hb
      go_wp2_with fail
      obtain ⟨w1, w2, w3, z1, z2, z3, m1, m2, m3, n1, n2, n3, kt, ⟨hw1, hw2, hw3, hz1, hz2, hz3, hm1, hm2, hm3, hn1, hn2, hn3⟩, hg⟩ := gave12_i64 (o := sofF 0 0 0 0 0 0) (fun _ _ _ _ _ _ _ _ _ _ _ _ h => sof_ok h)
      have HG := Lib.hid hg
      clear hg
      refine (HG.out _ _ _ _ (implSOf_any 0 0 0 0 0 0 i64_0 i64_0 i64_0 i64_0 i64_0 i64_0 _ (HL.out _ (by repeat' (first | (with_reducible first | assumption | exact Acc.refl _ | refine Acc.alloc ?_ _ | refine Acc.setCell ?_ ?_ _) | (refine leB ?_; omega)))))).mono ?_
      rintro e W7 ⟨rfl, hb⟩
      obtain ⟨Ba, Bo, Bw, Bn, Bqs, Brs, Bj⟩ : Blk W7 (W0.heap.size) [.int .i64 x1, .int .i64 x2, .int .i64 x3, .int .i64 y1, .int .i64 y2, .int .i64 y3] ∧ Blk W7 (W1.heap.size) [.int .i64 s1, .int .i64 s2, .int .i64 s3, .int .i64 t1, .int .i64 t2, .int .i64 t3, .int .i64 u1, .int .i64 u2, .int .i64 u3, .int .i64 v1, .int .i64 v2, .int .i64 v3] ∧ Blk W7 (W2.heap.size) [.int .i64 s1, .int .i64 s2, .int .i64 s3, .int .i64 t1, .int .i64 t2, .int .i64 t3, .int .i64 u1, .int .i64 u2, .int .i64 u3, .int .i64 v1, .int .i64 v2, .int .i64 v3] ∧ Blk W7 (W3.heap.size) [.int .i64 s1, .int .i64 s2, .int .i64 s3] ∧ Blk W7 (W4.heap.size) [.int .i64 e1, .int .i64 e2, .int .i64 e3] ∧ Blk W7 (W5.heap.size) [.int .i64 0, .int .i64 0, .int .i64 0] ∧ Blk W7 (W6.heap.size) [.int .i64 0, .int .i64 0, .int .i64 0, .int .i64 0, .int .i64 0, .int .i64 0] := by
        refine ⟨?_, ?_, ?_, ?_, ?_, ?_, ?_⟩ <;> refine Blk.keep hb ?_ <;> (repeat' (first | (with_reducible first | assumption | apply Blk.set | (refine Blk.new ?_; focus (first | rfl | (simp; done))) | refine Blk.alloc ?_ _ | refine Blk.other ?_ ?_ _) | exact eqL rfl | (refine neB ?_; omega)))
      have ca := Ba.cell
      have fa := Ba.free
      have la_W7 := Ba.lt
      have co := Bo.cell
      have fo := Bo.free
      have lo_W7 := Bo.lt
      have cw := Bw.cell
      have fw := Bw.free
      have lw_W7 := Bw.lt
      have cn := Bn.cell
      have fn := Bn.free
      have ln_W7 := Bn.lt
      have cqs := Bqs.cell
      have fqs := Bqs.free
      have lqs_W7 := Bqs.lt
      have crs := Brs.cell
      have frs := Brs.free
      have lrs_W7 := Brs.lt
      have cj := Bj.cell
      have fj := Bj.free
      have lj_W7 := Bj.lt
      have kaW7 : Acc w W7 := by
        refine Acc.call ?_ hb
        (repeat' (first | (with_reducible first | assumption | exact Acc.refl _ | refine Acc.alloc ?_ _ | refine Acc.setCell ?_ ?_ _) | (refine leB ?_; omega)))
      clear hb
      go_wp2_with fail
      all_goals
        go_ret
        refine ⟨by first | rfl | (simp [*]; done) | (simp [go_sem, *]; done), ?_⟩
        show Acc w _
        (repeat' (first | (with_reducible first | assumption | exact Acc.refl _ | refine Acc.alloc ?_ _ | refine Acc.setCell ?_ ?_ _) | (refine leB ?_; omega)))
     | some v =>
      obtain ⟨⟨g1, g2, g3⟩, k1, k2, k3⟩ := v
      have hT := (sof_turn hj).trans ho
      obtain ⟨hg1, hg2, hg3⟩ := okF_i64 (jtimes_ok hj).1
      obtain ⟨hk1, hk2, hk3⟩ := okF_i64 (jtimes_ok hj).2
      have HJ := Lib.hid hj
      have HT := Lib.hid hT
      clear hj hT ho
      refine (gave6_some HJ.out (implJTimes_any x1 x2 x3 y1 y2 y3 0 1 1 hx1 hx2 hx3 hy1 hy2 hy3 i64_0 i64_1 i64_1 _ (HL.out _ (by repeat' (first | (with_reducible first | assumption | exact Acc.refl _ | refine Acc.alloc ?_ _ | refine Acc.setCell ?_ ?_ _) | (refine leB ?_; omega)))))).mono ?_
      rintro e W6 ⟨rfl, hb⟩
      obtain ⟨Ba, Bo, Bw, Bn, Bqs, Brs⟩ : Blk W6 (W0.heap.size) [.int .i64 x1, .int .i64 x2, .int .i64 x3, .int .i64 y1, .int .i64 y2, .int .i64 y3] ∧ Blk W6 (W1.heap.size) [.int .i64 s1, .int .i64 s2, .int .i64 s3, .int .i64 t1, .int .i64 t2, .int .i64 t3, .int .i64 u1, .int .i64 u2, .int .i64 u3, .int .i64 v1, .int .i64 v2, .int .i64 v3] ∧ Blk W6 (W2.heap.size) [.int .i64 s1, .int .i64 s2, .int .i64 s3, .int .i64 t1, .int .i64 t2, .int .i64 t3, .int .i64 u1, .int .i64 u2, .int .i64 u3, .int .i64 v1, .int .i64 v2, .int .i64 v3] ∧ Blk W6 (W3.heap.size) [.int .i64 s1, .int .i64 s2, .int .i64 s3] ∧ Blk W6 (W4.heap.size) [.int .i64 e1, .int .i64 e2, .int .i64 e3] ∧ Blk W6 (W5.heap.size) [.int .i64 0, .int .i64 0, .int .i64 0] := by
        refine ⟨?_, ?_, ?_, ?_, ?_, ?_⟩ <;> refine Blk.keep hb ?_ <;> (repeat' (first | (with_reducible first | assumption | apply Blk.set | (refine Blk.new ?_; focus (first | rfl | (simp; done))) | refine Blk.alloc ?_ _ | refine Blk.other ?_ ?_ _) | exact eqL rfl | (refine neB ?_; omega)))
      have ca := Ba.cell
      have fa := Ba.free
      have la_W6 := Ba.lt
      have co := Bo.cell
      have fo := Bo.free
      have lo_W6 := Bo.lt
      have cw := Bw.cell
      have fw := Bw.free
      have lw_W6 := Bw.lt
      have cn := Bn.cell
      have fn := Bn.free
      have ln_W6 := Bn.lt
      have cqs := Bqs.cell
      have fqs := Bqs.free
      have lqs_W6 := Bqs.lt
      have crs := Brs.cell
      have frs := Brs.free
      have lrs_W6 := Brs.lt
      have kaW6 : Acc w W6 := by
        refine Acc.call ?_ hb
        (repeat' (first | (with_reducible first | assumption | exact Acc.refl _ | refine Acc.alloc ?_ _ | refine Acc.setCell ?_ ?_ _) | (refine leB ?_; omega)))
      clear hb
      go_wp2_with fail
      refine (gave12_some HT.out (implSOf_any g1 g2 g3 k1 k2 k3 hg1 hg2 hg3 hk1 hk2 hk3 _ (HL.out _ (by repeat' (first | (with_reducible first | assumption | exact Acc.refl _ | refine Acc.alloc ?_ _ | refine Acc.setCell ?_ ?_ _) | (refine leB ?_; omega)))))).mono ?_
      rintro e W7 ⟨rfl, hb⟩
      obtain ⟨Ba, Bo, Bw, Bn, Bqs, Brs, Bj⟩ : Blk W7 (W0.heap.size) [.int .i64 x1, .int .i64 x2, .int .i64 x3, .int .i64 y1, .int .i64 y2, .int .i64 y3] ∧ Blk W7 (W1.heap.size) [.int .i64 s1, .int .i64 s2, .int .i64 s3, .int .i64 t1, .int .i64 t2, .int .i64 t3, .int .i64 u1, .int .i64 u2, .int .i64 u3, .int .i64 v1, .int .i64 v2, .int .i64 v3] ∧ Blk W7 (W2.heap.size) [.int .i64 s1, .int .i64 s2, .int .i64 s3, .int .i64 t1, .int .i64 t2, .int .i64 t3, .int .i64 u1, .int .i64 u2, .int .i64 u3, .int .i64 v1, .int .i64 v2, .int .i64 v3] ∧ Blk W7 (W3.heap.size) [.int .i64 s1, .int .i64 s2, .int .i64 s3] ∧ Blk W7 (W4.heap.size) [.int .i64 e1, .int .i64 e2, .int .i64 e3] ∧ Blk W7 (W5.heap.size) [.int .i64 0, .int .i64 0, .int .i64 0] ∧ Blk W7 (W6.heap.size) [.int .i64 g1, .int .i64 g2, .int .i64 g3, .int .i64 k1, .int .i64 k2, .int .i64 k3] := by
        refine ⟨?_, ?_, ?_, ?_, ?_, ?_, ?_⟩ <;> refine Blk.keep hb ?_ <;> (repeat' (first | (with_reducible first | assumption | apply Blk.set | (refine Blk.new ?_; focus (first | rfl | (simp; done))) | refine Blk.alloc ?_ _ | refine Blk.other ?_ ?_ _) | exact eqL rfl | (refine neB ?_; omega)))
      have ca := Ba.cell
      have fa := Ba.free
      have la_W7 := Ba.lt
      have co := Bo.cell
      have fo := Bo.free
      have lo_W7 := Bo.lt
      have cw := Bw.cell
      have fw := Bw.free
      have lw_W7 := Bw.lt
      have cn := Bn.cell
      have fn := Bn.free
      have ln_W7 := Bn.lt
      have cqs := Bqs.cell
      have fqs := Bqs.free
      have lqs_W7 := Bqs.lt
      have crs := Brs.cell
      have frs := Brs.free
      have lrs_W7 := Brs.lt
      have cj := Bj.cell
      have fj := Bj.free
      have lj_W7 := Bj.lt
      have kaW7 : Acc w W7 := by
        refine Acc.call ?_ hb
        (repeat' (first | (with_reducible first | assumption | exact Acc.refl _ | refine Acc.alloc ?_ _ | refine Acc.setCell ?_ ?_ _) | (refine leB ?_; omega)))
      clear hb
      go_wp2_with fail
      all_goals
        go_ret
        refine ⟨by first | rfl | (simp [*]; done) | (simp [go_sem, *]; done), ?_⟩
        show Acc w _
        (repeat' (first | (with_reducible first | assumption | exact Acc.refl _ | refine Acc.alloc ?_ _ | refine Acc.setCell ?_ ?_ _) | (refine leB ?_; omega)))
    | some v =>
     obtain ⟨f1, f2, f3⟩ := v
     obtain ⟨hf1, hf2, hf3⟩ := okF_i64 (times_ok ht)
     have HRS := Lib.hid ht
     clear ht
     refine (gave_some HRS.out (implTimes_any s1 s2 s3 s1 s2 s3 hs1 hs2 hs3 hs1 hs2 hs3 _ (HL.out _ (by repeat' (first | (with_reducible first | assumption | exact Acc.refl _ | refine Acc.alloc ?_ _ | refine Acc.setCell ?_ ?_ _) | (refine leB ?_; omega)))))).mono ?_
     rintro e W5 ⟨rfl, hb⟩
     obtain ⟨Ba, Bo, Bw, Bn, Bqs⟩ : Blk W5 (W0.heap.size) [.int .i64 x1, .int .i64 x2, .int .i64 x3, .int .i64 y1, .int .i64 y2, .int .i64 y3] ∧ Blk W5 (W1.heap.size) [.int .i64 s1, .int .i64 s2, .int .i64 s3, .int .i64 t1, .int .i64 t2, .int .i64 t3, .int .i64 u1, .int .i64 u2, .int .i64 u3, .int .i64 v1, .int .i64 v2, .int .i64 v3] ∧ Blk W5 (W2.heap.size) [.int .i64 s1, .int .i64 s2, .int .i64 s3, .int .i64 t1, .int .i64 t2, .int .i64 t3, .int .i64 u1, .int .i64 u2, .int .i64 u3, .int .i64 v1, .int .i64 v2, .int .i64 v3] ∧ Blk W5 (W3.heap.size) [.int .i64 s1, .int .i64 s2, .int .i64 s3] ∧ Blk W5 (W4.heap.size) [.int .i64 e1, .int .i64 e2, .int .i64 e3] := by
       refine ⟨?_, ?_, ?_, ?_, ?_⟩ <;> refine Blk.keep hb ?_ <;> (repeat' (first | (with_reducible first | assumption | apply Blk.set | (refine Blk.new ?_; focus (first | rfl | (simp; done))) | refine Blk.alloc ?_ _ | refine Blk.other ?_ ?_ _) | exact eqL rfl | (refine neB ?_; omega)))
     have ca := Ba.cell
     have fa := Ba.free
     have la_W5 := Ba.lt
     have co := Bo.cell
     have fo := Bo.free
     have lo_W5 := Bo.lt
     have cw := Bw.cell
     have fw := Bw.free
     have lw_W5 := Bw.lt
     have cn := Bn.cell
     have fn := Bn.free
     have ln_W5 := Bn.lt
     have cqs := Bqs.cell
     have fqs := Bqs.free
     have lqs_W5 := Bqs.lt
     have kaW5 : Acc w W5 := by
       refine Acc.call ?_ hb
       (repeat' (first | (with_reducible first | assumption | exact Acc.refl _ | refine Acc.alloc ?_ _ | refine Acc.setCell ?_ ?_ _) | (refine leB ?_; omega)))
     clear hb
     go_wp2_with fail
     cases hj : jtimesF x1 x2 x3 y1 y2 y3 0 1 1 with
     | none =>
      have HJ := Lib.hid hj
      clear hj ho
      refine (gave6_none HJ.out (implJTimes_any x1 x2 x3 y1 y2 y3 0 1 1 hx1 hx2 hx3 hy1 hy2 hy3 i64_0 i64_1 i64_1 _ (HL.out _ (by repeat' (first | (with_reducible first | assumption | exact Acc.refl _ | refine Acc.alloc ?_ _ | refine Acc.setCell ?_ ?_ _) | (refine leB ?_; omega)))))).mono ?_
      rintro e W6 ⟨rfl, hb⟩
      obtain ⟨Ba, Bo, Bw, Bn, Bqs, Brs⟩ : Blk W6 (W0.heap.size) [.int .i64 x1, .int .i64 x2, .int .i64 x3, .int .i64 y1, .int .i64 y2, .int .i64 y3] ∧ Blk W6 (W1.heap.size) [.int .i64 s1, .int .i64 s2, .int .i64 s3, .int .i64 t1, .int .i64 t2, .int .i64 t3, .int .i64 u1, .int .i64 u2, .int .i64 u3, .int .i64 v1, .int .i64 v2, .int .i64 v3] ∧ Blk W6 (W2.heap.size) [.int .i64 s1, .int .i64 s2, .int .i64 s3, .int .i64 t1, .int .i64 t2, .int .i64 t3, .int .i64 u1, .int .i64 u2, .int .i64 u3, .int .i64 v1, .int .i64 v2, .int .i64 v3] ∧ Blk W6 (W3.heap.size) [.int .i64 s1, .int .i64 s2, .int .i64 s3] ∧ Blk W6 (W4.heap.size) [.int .i64 e1, .int .i64 e2, .int .i64 e3] ∧ Blk W6 (W5.heap.size) [.int .i64 f1, .int .i64 f2, .int .i64 f3] := by
        refine ⟨?_, ?_, ?_, ?_, ?_, ?_⟩ <;> refine Blk.keep hb ?_ <;> (repeat' (first | (with_reducible first | assumption | apply Blk.set | (refine Blk.new ?_; focus (first | rfl | (simp; done))) | refine Blk.alloc ?_ _ | refine Blk.other ?_ ?_ _) | exact eqL rfl | (refine neB ?_; omega)))
      have ca := Ba.cell
      have fa := Ba.free
      have la_W6 := Ba.lt
      have co := Bo.cell
      have fo := Bo.free
      have lo_W6 := Bo.lt
      have cw := Bw.cell
      have fw := Bw.free
      have lw_W6 := Bw.lt
      have cn := Bn.cell
      have fn := Bn.free
      have ln_W6 := Bn.lt
      have cqs := Bqs.cell
      have fqs := Bqs.free
      have lqs_W6 := Bqs.lt
      have crs := Brs.cell
      have frs := Brs.free
      have lrs_W6 := Brs.lt
      have kaW6 : Acc w W6 := by
        refine Acc.call ?_ hb
        (repeat' (first | (with_reducible first | assumption | exact Acc.refl _ | refine Acc.alloc ?_ _ | refine Acc.setCell ?_ ?_ _) | (refine leB ?_; omega)))
      clear hb
      go_wp2_with fail
      obtain ⟨w1, w2, w3, z1, z2, z3, m1, m2, m3, n1, n2, n3, kt, ⟨hw1, hw2, hw3, hz1, hz2, hz3, hm1, hm2, hm3, hn1, hn2, hn3⟩, hg⟩ := gave12_i64 (o := sofF 0 0 0 0 0 0) (fun _ _ _ _ _ _ _ _ _ _ _ _ h => sof_ok h)
      have HG := Lib.hid hg
      clear hg
      refine (HG.out _ _ _ _ (implSOf_any 0 0 0 0 0 0 i64_0 i64_0 i64_0 i64_0 i64_0 i64_0 _ (HL.out _ (by repeat' (first | (with_reducible first | assumption | exact Acc.refl _ | refine Acc.alloc ?_ _ | refine Acc.setCell ?_ ?_ _) | (refine leB ?_; omega)))))).mono ?_
      rintro e W7 ⟨rfl, hb⟩
      obtain ⟨Ba, Bo, Bw, Bn, Bqs, Brs, Bj⟩ : Blk W7 (W0.heap.size) [.int .i64 x1, .int .i64 x2, .int .i64 x3, .int .i64 y1, .int .i64 y2, .int .i64 y3] ∧ Blk W7 (W1.heap.size) [.int .i64 s1, .int .i64 s2, .int .i64 s3, .int .i64 t1, .int .i64 t2, .int .i64 t3, .int .i64 u1, .int .i64 u2, .int .i64 u3, .int .i64 v1, .int .i64 v2, .int .i64 v3] ∧ Blk W7 (W2.heap.size) [.int .i64 s1, .int .i64 s2, .int .i64 s3, .int .i64 t1, .int .i64 t2, .int .i64 t3, .int .i64 u1, .int .i64 u2, .int .i64 u3, .int .i64 v1, .int .i64 v2, .int .i64 v3] ∧ Blk W7 (W3.heap.size) [.int .i64 s1, .int .i64 s2, .int .i64 s3] ∧ Blk W7 (W4.heap.size) [.int .i64 e1, .int .i64 e2, .int .i64 e3] ∧ Blk W7 (W5.heap.size) [.int .i64 f1, .int .i64 f2, .int .i64 f3] ∧ Blk W7 (W6.heap.size) [.int .i64 0, .int .i64 0, .int .i64 0, .int .i64 0, .int .i64 0, .int .i64 0] := by
        refine ⟨?_, ?_, ?_, ?_, ?_, ?_, ?_⟩ <;> refine Blk.keep hb ?_ <;> (repeat' (first | (with_reducible first | assumption | apply Blk.set | (refine Blk.new ?_; focus (first | rfl | (simp; done))) | refine Blk.alloc ?_ _ | refine Blk.other ?_ ?_ _) | exact eqL rfl | (refine neB ?_; omega)))
      have ca := Ba.cell
      have fa := Ba.free
      have la_W7 := Ba.lt
      have co := Bo.cell
      have fo := Bo.free
      have lo_W7 := Bo.lt
      have cw := Bw.cell
      have fw := Bw.free
      have lw_W7 := Bw.lt
      have cn := Bn.cell
      have fn := Bn.free
      have ln_W7 := Bn.lt
      have cqs := Bqs.cell
      have fqs := Bqs.free
      have lqs_W7 := Bqs.lt
      have crs := Brs.cell
      have frs := Brs.free
      have lrs_W7 := Brs.lt
      have cj := Bj.cell
      have fj := Bj.free
      have lj_W7 := Bj.lt
      have kaW7 : Acc w W7 := by
        refine Acc.call ?_ hb
        (repeat' (first | (with_reducible first | assumption | exact Acc.refl _ | refine Acc.alloc ?_ _ | refine Acc.setCell ?_ ?_ _) | (refine leB ?_; omega)))
      clear hb
      go_wp2_with fail
      have hB := sof_pure HO.out HQS.out HRS.out
      have HB := Lib.hid hB
      clear hB
      refine (valid_at HB.out (implPure_any s1 s2 s3 t1 t2 t3 u1 u2 u3 v1 v2 v3 hs1 hs2 hs3 ht1 ht2 ht3 hu1 hu2 hu3 hv1 hv2 hv3 _ (HL.out _ (by repeat' (first | (with_reducible first | assumption | exact Acc.refl _ | refine Acc.alloc ?_ _ | refine Acc.setCell ?_ ?_ _) | (refine leB ?_; omega)))))).mono ?_
      rintro e W8 ⟨rfl, hb⟩
      obtain ⟨Ba, Bo, Bw, Bn, Bqs, Brs, Bj, Bt⟩ : Blk W8 (W0.heap.size) [.int .i64 x1, .int .i64 x2, .int .i64 x3, .int .i64 y1, .int .i64 y2, .int .i64 y3] ∧ Blk W8 (W1.heap.size) [.int .i64 s1, .int .i64 s2, .int .i64 s3, .int .i64 t1, .int .i64 t2, .int .i64 t3, .int .i64 u1, .int .i64 u2, .int .i64 u3, .int .i64 v1, .int .i64 v2, .int .i64 v3] ∧ Blk W8 (W2.heap.size) [.int .i64 s1, .int .i64 s2, .int .i64 s3, .int .i64 t1, .int .i64 t2, .int .i64 t3, .int .i64 u1, .int .i64 u2, .int .i64 u3, .int .i64 v1, .int .i64 v2, .int .i64 v3] ∧ Blk W8 (W3.heap.size) [.int .i64 s1, .int .i64 s2, .int .i64 s3] ∧ Blk W8 (W4.heap.size) [.int .i64 e1, .int .i64 e2, .int .i64 e3] ∧ Blk W8 (W5.heap.size) [.int .i64 f1, .int .i64 f2, .int .i64 f3] ∧ Blk W8 (W6.heap.size) [.int .i64 0, .int .i64 0, .int .i64 0, .int .i64 0, .int .i64 0, .int .i64 0] ∧ Blk W8 (W7.heap.size) [.int .i64 w1, .int .i64 w2, .int .i64 w3, .int .i64 z1, .int .i64 z2, .int .i64 z3, .int .i64 m1, .int .i64 m2, .int .i64 m3, .int .i64 n1, .int .i64 n2, .int .i64 n3] := by
        refine ⟨?_, ?_, ?_, ?_, ?_, ?_, ?_, ?_⟩ <;> refine Blk.keep hb ?_ <;> (repeat' (first | (with_reducible first | assumption | apply Blk.set | (refine Blk.new ?_; focus (first | rfl | (simp; done))) | refine Blk.alloc ?_ _ | refine Blk.other ?_ ?_ _) | exact eqL rfl | (refine neB ?_; omega)))
      have ca := Ba.cell
      have fa := Ba.free
      have la_W8 := Ba.lt
      have co := Bo.cell
      have fo := Bo.free
      have lo_W8 := Bo.lt
      have cw := Bw.cell
      have fw := Bw.free
      have lw_W8 := Bw.lt
      have cn := Bn.cell
      have fn := Bn.free
      have ln_W8 := Bn.lt
      have cqs := Bqs.cell
      have fqs := Bqs.free
      have lqs_W8 := Bqs.lt
      have crs := Brs.cell
      have frs := Brs.free
      have lrs_W8 := Brs.lt
      have cj := Bj.cell
      have fj := Bj.free
      have lj_W8 := Bj.lt
      have ct := Bt.cell
      have ft := Bt.free
      have lt_W8 := Bt.lt
      have kaW8 : Acc w W8 := by
        refine Acc.call ?_ hb
        (repeat' (first | (with_reducible first | assumption | exact Acc.refl _ | refine Acc.alloc ?_ _ | refine Acc.setCell ?_ ?_ _) | (refine leB ?_; omega)))
      clear hb
      go_wp2_with fail
      all_goals
        go_ret
        refine ⟨by first | rfl | (simp [*]; done) | (simp [go_sem, *]; done), ?_⟩
        show Acc w _
        (repeat' (first | (with_reducible first | assumption | exact Acc.refl _ | refine Acc.alloc ?_ _ | refine Acc.setCell ?_ ?_ _) | (refine leB ?_; omega)))
     | some v =>
      obtain ⟨⟨g1, g2, g3⟩, k1, k2, k3⟩ := v
      have hT := (sof_turn hj).trans ho
      obtain ⟨hg1, hg2, hg3⟩ := okF_i64 (jtimes_ok hj).1
      obtain ⟨hk1, hk2, hk3⟩ := okF_i64 (jtimes_ok hj).2
      have HJ := Lib.hid hj
      have HT := Lib.hid hT
      clear hj hT ho
      refine (gave6_some HJ.out (implJTimes_any x1 x2 x3 y1 y2 y3 0 1 1 hx1 hx2 hx3 hy1 hy2 hy3 i64_0 i64_1 i64_1 _ (HL.out _ (by repeat' (first | (with_reducible first | assumption | exact Acc.refl _ | refine Acc.alloc ?_ _ | refine Acc.setCell ?_ ?_ _) | (refine leB ?_; omega)))))).mono ?_
      rintro e W6 ⟨rfl, hb⟩
      obtain ⟨Ba, Bo, Bw, Bn, Bqs, Brs⟩ : Blk W6 (W0.heap.size) [.int .i64 x1, .int .i64 x2, .int .i64 x3, .int .i64 y1, .int .i64 y2, .int .i64 y3] ∧ Blk W6 (W1.heap.size) [.int .i64 s1, .int .i64 s2, .int .i64 s3, .int .i64 t1, .int .i64 t2, .int .i64 t3, .int .i64 u1, .int .i64 u2, .int .i64 u3, .int .i64 v1, .int .i64 v2, .int .i64 v3] ∧ Blk W6 (W2.heap.size) [.int .i64 s1, .int .i64 s2, .int .i64 s3, .int .i64 t1, .int .i64 t2, .int .i64 t3, .int .i64 u1, .int .i64 u2, .int .i64 u3, .int .i64 v1, .int .i64 v2, .int .i64 v3] ∧ Blk W6 (W3.heap.size) [.int .i64 s1, .int .i64 s2, .int .i64 s3] ∧ Blk W6 (W4.heap.size) [.int .i64 e1, .int .i64 e2, .int .i64 e3] ∧ Blk W6 (W5.heap.size) [.int .i64 f1, .int .i64 f2, .int .i64 f3] := by
        refine ⟨?_, ?_, ?_, ?_, ?_, ?_⟩ <;> refine Blk.keep hb ?_ <;> (repeat' (first | (with_reducible first | assumption | apply Blk.set | (refine Blk.new ?_; focus (first | rfl | (simp; done))) | refine Blk.alloc ?_ _ | refine Blk.other ?_ ?_ _) | exact eqL rfl | (refine neB ?_; omega)))
      have ca := Ba.cell
      have fa := Ba.free
      have la_W6 := Ba.lt
      have co := Bo.cell
      have fo := Bo.free
      have lo_W6 := Bo.lt
      have cw := Bw.cell
      have fw := Bw.free
      have lw_W6 := Bw.lt
      have cn := Bn.cell
      have fn := Bn.free
      have ln_W6 := Bn.lt
      have cqs := Bqs.cell
      have fqs := Bqs.free
      have lqs_W6 := Bqs.lt
      have crs := Brs.cell
      have frs := Brs.free
      have lrs_W6 := Brs.lt
      have kaW6 : Acc w W6 := by
        refine Acc.call ?_ hb
        (repeat' (first | (with_reducible first | assumption | exact Acc.refl _ | refine Acc.alloc ?_ _ | refine Acc.setCell ?_ ?_ _) | (refine leB ?_; omega)))
      clear hb
      go_wp2_with fail
      refine (gave12_some HT.out (implSOf_any g1 g2 g3 k1 k2 k3 hg1 hg2 hg3 hk1 hk2 hk3 _ (HL.out _ (by repeat' (first | (with_reducible first | assumption | exact Acc.refl _ | refine Acc.alloc ?_ _ | refine Acc.setCell ?_ ?_ _) | (refine leB ?_; omega)))))).mono ?_
      rintro e W7 ⟨rfl, hb⟩
      obtain ⟨Ba, Bo, Bw, Bn, Bqs, Brs, Bj⟩ : Blk W7 (W0.heap.size) [.int .i64 x1, .int .i64 x2, .int .i64 x3, .int .i64 y1, .int .i64 y2, .int .i64 y3] ∧ Blk W7 (W1.heap.size) [.int .i64 s1, .int .i64 s2, .int .i64 s3, .int .i64 t1, .int .i64 t2, .int .i64 t3, .int .i64 u1, .int .i64 u2, .int .i64 u3, .int .i64 v1, .int .i64 v2, .int .i64 v3] ∧ Blk W7 (W2.heap.size) [.int .i64 s1, .int .i64 s2, .int .i64 s3, .int .i64 t1, .int .i64 t2, .int .i64 t3, .int .i64 u1, .int .i64 u2, .int .i64 u3, .int .i64 v1, .int .i64 v2, .int .i64 v3] ∧ Blk W7 (W3.heap.size) [.int .i64 s1, .int .i64 s2, .int .i64 s3] ∧ Blk W7 (W4.heap.size) [.int .i64 e1, .int .i64 e2, .int .i64 e3] ∧ Blk W7 (W5.heap.size) [.int .i64 f1, .int .i64 f2, .int .i64 f3] ∧ Blk W7 (W6.heap.size) [.int .i64 g1, .int .i64 g2, .int .i64 g3, .int .i64 k1, .int .i64 k2, .int .i64 k3] := by
        refine ⟨?_, ?_, ?_, ?_, ?_, ?_, ?_⟩ <;> refine Blk.keep hb ?_ <;> (repeat' (first | (with_reducible first | assumption | apply Blk.set | (refine Blk.new ?_; focus (first | rfl | (simp; done))) | refine Blk.alloc ?_ _ | refine Blk.other ?_ ?_ _) | exact eqL rfl | (refine neB ?_; omega)))
      have ca := Ba.cell
      have fa := Ba.free
      have la_W7 := Ba.lt
      have co := Bo.cell
      have fo := Bo.free
      have lo_W7 := Bo.lt
      have cw := Bw.cell
      have fw := Bw.free
      have lw_W7 := Bw.lt
      have cn := Bn.cell
      have fn := Bn.free
      have ln_W7 := Bn.lt
      have cqs := Bqs.cell
      have fqs := Bqs.free
      have lqs_W7 := Bqs.lt
      have crs := Brs.cell
      have frs := Brs.free
      have lrs_W7 := Brs.lt
      have cj := Bj.cell
      have fj := Bj.free
      have lj_W7 := Bj.lt
      have kaW7 : Acc w W7 := by
        refine Acc.call ?_ hb
        (repeat' (first | (with_reducible first | assumption | exact Acc.refl _ | refine Acc.alloc ?_ _ | refine Acc.setCell ?_ ?_ _) | (refine leB ?_; omega)))
      clear hb
      go_wp2_with fail
      have hB := sof_pure HO.out HQS.out HRS.out
      have HB := Lib.hid hB
      clear hB
      refine (valid_at HB.out (implPure_any s1 s2 s3 t1 t2 t3 u1 u2 u3 v1 v2 v3 hs1 hs2 hs3 ht1 ht2 ht3 hu1 hu2 hu3 hv1 hv2 hv3 _ (HL.out _ (by repeat' (first | (with_reducible first | assumption | exact Acc.refl _ | refine Acc.alloc ?_ _ | refine Acc.setCell ?_ ?_ _) | (refine leB ?_; omega)))))).mono ?_
      rintro e W8 ⟨rfl, hb⟩
      obtain ⟨Ba, Bo, Bw, Bn, Bqs, Brs, Bj, Bt⟩ : Blk W8 (W0.heap.size) [.int .i64 x1, .int .i64 x2, .int .i64 x3, .int .i64 y1, .int .i64 y2, .int .i64 y3] ∧ Blk W8 (W1.heap.size) [.int .i64 s1, .int .i64 s2, .int .i64 s3, .int .i64 t1, .int .i64 t2, .int .i64 t3, .int .i64 u1, .int .i64 u2, .int .i64 u3, .int .i64 v1, .int .i64 v2, .int .i64 v3] ∧ Blk W8 (W2.heap.size) [.int .i64 s1, .int .i64 s2, .int .i64 s3, .int .i64 t1, .int .i64 t2, .int .i64 t3, .int .i64 u1, .int .i64 u2, .int .i64 u3, .int .i64 v1, .int .i64 v2, .int .i64 v3] ∧ Blk W8 (W3.heap.size) [.int .i64 s1, .int .i64 s2, .int .i64 s3] ∧ Blk W8 (W4.heap.size) [.int .i64 e1, .int .i64 e2, .int .i64 e3] ∧ Blk W8 (W5.heap.size) [.int .i64 f1, .int .i64 f2, .int .i64 f3] ∧ Blk W8 (W6.heap.size) [.int .i64 g1, .int .i64 g2, .int .i64 g3, .int .i64 k1, .int .i64 k2, .int .i64 k3] ∧ Blk W8 (W7.heap.size) [.int .i64 s1, .int .i64 s2, .int .i64 s3, .int .i64 t1, .int .i64 t2, .int .i64 t3, .int .i64 u1, .int .i64 u2, .int .i64 u3, .int .i64 v1, .int .i64 v2, .int .i64 v3] := by
        refine ⟨?_, ?_, ?_, ?_, ?_, ?_, ?_, ?_⟩ <;> refine Blk.keep hb ?_ <;> (repeat' (first | (with_reducible first | assumption | apply Blk.set | (refine Blk.new ?_; focus (first | rfl | (simp; done))) | refine Blk.alloc ?_ _ | refine Blk.other ?_ ?_ _) | exact eqL rfl | (refine neB ?_; omega)))
      have ca := Ba.cell
      have fa := Ba.free
      have la_W8 := Ba.lt
      have co := Bo.cell
      have fo := Bo.free
      have lo_W8 := Bo.lt
      have cw := Bw.cell
      have fw := Bw.free
      have lw_W8 := Bw.lt
      have cn := Bn.cell
      have fn := Bn.free
      have ln_W8 := Bn.lt
      have cqs := Bqs.cell
      have fqs := Bqs.free
      have lqs_W8 := Bqs.lt
      have crs := Brs.cell
      have frs := Brs.free
      have lrs_W8 := Brs.lt
      have cj := Bj.cell
      have fj := Bj.free
      have lj_W8 := Bj.lt
      have ct := Bt.cell
      have ft := Bt.free
      have lt_W8 := Bt.lt
      have kaW8 : Acc w W8 := by
        refine Acc.call ?_ hb
        (repeat' (first | (with_reducible first | assumption | exact Acc.refl _ | refine Acc.alloc ?_ _ | refine Acc.setCell ?_ ?_ _) | (refine leB ?_; omega)))
      clear hb
      go_wp2_with fail
      all_goals
        go_ret
        refine ⟨by first | rfl | (simp [*]; done) | (simp [go_sem, *]; done), ?_⟩
        show Acc w _
        (repeat' (first | (with_reducible first | assumption | exact Acc.refl _ | refine Acc.alloc ?_ _ | refine Acc.setCell ?_ ?_ _) | (refine leB ?_; omega)))
end Go.Proofs.YtedigdakgjaedabDoor
