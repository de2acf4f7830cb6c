/-
  The law of multiples of vectors.
-/
import Derived.Test.YtbihlkienhbapabDoorDrawJones
import Derived.Test.YtbihlkienhbapabDoorJonesMath
import Derived.Test.YtbihlkienhbapabDoorGave
import Derived.Test.YtbihlkienhbapabDoorAlikeAll
import Derived.Test.YtbihlkienhbapabDoorImplJ1
import Derived.Test.YtbihlkienhbapabDoorImplJ3
import Derived.Test.YtbihlkienhbapabDoorImplFn
namespace Go.Proofs.YtbihlkienhbapabDoor
open Go.ChangeShapes Go.WideShapes Go.ChangeAt Go.RowKit
set_option linter.unusedVariables false

set_option maxRecDepth 100000 in
set_option maxHeartbeats 16000000 in
theorem fnJonesTimes_law (w : World) (hl : Laid w) (s : Option Addr) (len cap : Nat) (h : Code8 w s len cap) :
    Calls Tryd.prog 7 #[.slice s len cap] w (Fine w) := by
  have hm := h.2.1
  have hl' := h.1
  unfold maxLen at hm
  have HL := Lib.hid fun W (k : Acc w W) => hl.acc k
  clear hl
  by_cases hlen : 1048576 < len
  · clear h
    have hlen' : (1048576 : Int) < (len : Int) := by omega
    go_enter Tryd.func7, Tryd.ntmps7
    go_wp2_with fail
    go_ret
    exact ⟨rfl, Below.refl _ _⟩
  have hlen' : ¬ (1048576 : Int) < (len : Int) := by omega
  go_enter Tryd.func7, Tryd.ntmps7
  go_wp2_with fail
  refine (drawJonesTimes_any s len cap w h).mono ?_
  rintro e W0 ⟨x1, x2, x3, y1, y2, y3, c1, c2, c3, rfl, ⟨hx1, hx2, hx3, hy1, hy2, hy3⟩, ⟨hc1, hc2, hc3⟩, hb⟩
  have kaW0 : Acc w W0 := hb
  clear hb h
  go_wp2_with fail
  by_cases hz : c1 = 0
  · subst hz
    by_cases hz : c2 = 0
    · subst hz
      cases ho : jtimesF x1 x2 x3 y1 y2 y3 0 0 c3 with
      | none =>
       have HO := Lib.hid ho
       clear ho
       refine (gave6_none HO.out (implJTimes_any x1 x2 x3 y1 y2 y3 0 0 c3 hx1 hx2 hx3 hy1 hy2 hy3 i64_0 i64_0 hc3 _ (HL.out _ (by repeat' (first | (with_reducible first | assumption | exact Acc.refl _ | refine Acc.alloc ?_ _ | refine Acc.setCell ?_ ?_ _) | (refine leB ?_; omega)))))).mono ?_
       rintro e W1 ⟨rfl, hb⟩
       obtain ⟨Ba, Bc⟩ : Blk W1 (W0.heap.size) [.int .i64 x1, .int .i64 x2, .int .i64 x3, .int .i64 y1, .int .i64 y2, .int .i64 y3] ∧ Blk W1 (W0.heap.size + 1) [.int .i64 0, .int .i64 0, .int .i64 c3] := by
         refine ⟨?_, ?_⟩ <;> refine Blk.keep hb ?_ <;> (repeat' (first | (with_reducible first | assumption | apply Blk.set | (refine Blk.new ?_; focus (first | rfl | (simp; done))) | refine Blk.alloc ?_ _ | refine Blk.other ?_ ?_ _) | exact eqL rfl | (refine neB ?_; omega)))
       have ca := Ba.cell
       have fa := Ba.free
       have la_W1 := Ba.lt
       have cc := Bc.cell
       have fc := Bc.free
       have lc_W1 := Bc.lt
       have kaW1 : Acc w W1 := by
         refine Acc.call ?_ hb
         (repeat' (first | (with_reducible first | assumption | exact Acc.refl _ | refine Acc.alloc ?_ _ | refine Acc.setCell ?_ ?_ _) | (refine leB ?_; omega)))
       clear hb
       go_wp2_with fail
       refine (gave6_none HO.out (specJTimes_any x1 x2 x3 y1 y2 y3 0 0 c3 _)).mono ?_
       rintro e W2 ⟨rfl, hb⟩
       obtain ⟨Ba, Bc, Bo⟩ : Blk W2 (W0.heap.size) [.int .i64 x1, .int .i64 x2, .int .i64 x3, .int .i64 y1, .int .i64 y2, .int .i64 y3] ∧ Blk W2 (W0.heap.size + 1) [.int .i64 0, .int .i64 0, .int .i64 c3] ∧ Blk W2 (W1.heap.size) [.int .i64 0, .int .i64 0, .int .i64 0, .int .i64 0, .int .i64 0, .int .i64 0] := by
         refine ⟨?_, ?_, ?_⟩ <;> refine Blk.keep hb ?_ <;> (repeat' (first | (with_reducible first | assumption | apply Blk.set | (refine Blk.new ?_; focus (first | rfl | (simp; done))) | refine Blk.alloc ?_ _ | refine Blk.other ?_ ?_ _) | exact eqL rfl | (refine neB ?_; omega)))
       have ca := Ba.cell
       have fa := Ba.free
       have la_W2 := Ba.lt
       have cc := Bc.cell
       have fc := Bc.free
       have lc_W2 := Bc.lt
       have co := Bo.cell
       have fo := Bo.free
       have lo_W2 := Bo.lt
       have kaW2 : Acc w W2 := by
         refine Acc.call ?_ hb
         (repeat' (first | (with_reducible first | assumption | exact Acc.refl _ | refine Acc.alloc ?_ _ | refine Acc.setCell ?_ ?_ _) | (refine leB ?_; omega)))
       clear hb
       go_wp2_with fail
       go_ret
       refine ⟨rfl, ?_⟩
       show Acc w _
       (repeat' (first | (with_reducible first | assumption | exact Acc.refl _ | refine Acc.alloc ?_ _ | refine Acc.setCell ?_ ?_ _) | (refine leB ?_; omega)))
      | some v =>
       obtain ⟨⟨u1, u2, u3⟩, v1, v2, v3⟩ := v
       obtain ⟨hu1, hu2, hu3⟩ := okF_i64 (jtimes_ok ho).1
       obtain ⟨hv1, hv2, hv3⟩ := okF_i64 (jtimes_ok ho).2
       have HO := Lib.hid ho
       clear ho
       refine (gave6_some HO.out (implJTimes_any x1 x2 x3 y1 y2 y3 0 0 c3 hx1 hx2 hx3 hy1 hy2 hy3 i64_0 i64_0 hc3 _ (HL.out _ (by repeat' (first | (with_reducible first | assumption | exact Acc.refl _ | refine Acc.alloc ?_ _ | refine Acc.setCell ?_ ?_ _) | (refine leB ?_; omega)))))).mono ?_
       rintro e W1 ⟨rfl, hb⟩
       obtain ⟨Ba, Bc⟩ : Blk W1 (W0.heap.size) [.int .i64 x1, .int .i64 x2, .int .i64 x3, .int .i64 y1, .int .i64 y2, .int .i64 y3] ∧ Blk W1 (W0.heap.size + 1) [.int .i64 0, .int .i64 0, .int .i64 c3] := by
         refine ⟨?_, ?_⟩ <;> refine Blk.keep hb ?_ <;> (repeat' (first | (with_reducible first | assumption | apply Blk.set | (refine Blk.new ?_; focus (first | rfl | (simp; done))) | refine Blk.alloc ?_ _ | refine Blk.other ?_ ?_ _) | exact eqL rfl | (refine neB ?_; omega)))
       have ca := Ba.cell
       have fa := Ba.free
       have la_W1 := Ba.lt
       have cc := Bc.cell
       have fc := Bc.free
       have lc_W1 := Bc.lt
       have kaW1 : Acc w W1 := by
         refine Acc.call ?_ hb
         (repeat' (first | (with_reducible first | assumption | exact Acc.refl _ | refine Acc.alloc ?_ _ | refine Acc.setCell ?_ ?_ _) | (refine leB ?_; omega)))
       clear hb
       go_wp2_with fail
       refine (gave6_some HO.out (specJTimes_any x1 x2 x3 y1 y2 y3 0 0 c3 _)).mono ?_
       rintro e W2 ⟨rfl, hb⟩
       obtain ⟨Ba, Bc, Bo⟩ : Blk W2 (W0.heap.size) [.int .i64 x1, .int .i64 x2, .int .i64 x3, .int .i64 y1, .int .i64 y2, .int .i64 y3] ∧ Blk W2 (W0.heap.size + 1) [.int .i64 0, .int .i64 0, .int .i64 c3] ∧ Blk W2 (W1.heap.size) [.int .i64 u1, .int .i64 u2, .int .i64 u3, .int .i64 v1, .int .i64 v2, .int .i64 v3] := by
         refine ⟨?_, ?_, ?_⟩ <;> refine Blk.keep hb ?_ <;> (repeat' (first | (with_reducible first | assumption | apply Blk.set | (refine Blk.new ?_; focus (first | rfl | (simp; done))) | refine Blk.alloc ?_ _ | refine Blk.other ?_ ?_ _) | exact eqL rfl | (refine neB ?_; omega)))
       have ca := Ba.cell
       have fa := Ba.free
       have la_W2 := Ba.lt
       have cc := Bc.cell
       have fc := Bc.free
       have lc_W2 := Bc.lt
       have co := Bo.cell
       have fo := Bo.free
       have lo_W2 := Bo.lt
       have kaW2 : Acc w W2 := by
         refine Acc.call ?_ hb
         (repeat' (first | (with_reducible first | assumption | exact Acc.refl _ | refine Acc.alloc ?_ _ | refine Acc.setCell ?_ ?_ _) | (refine leB ?_; omega)))
       clear hb
       go_wp2_with fail
       obtain ⟨⟨p1, p2, p3⟩, hv⟩ : ∃ o, partsR (timesF x1 x2 x3 v1 v2 v3) = o := ⟨_, rfl⟩
       obtain ⟨kp, hk⟩ : ∃ k, okR (timesF x1 x2 x3 v1 v2 v3) = k := ⟨_, rfl⟩
       obtain ⟨hp1, hp2, hp3⟩ := parts_i64 (fun _ _ _ h => times_ok h) hv
       have HV := Lib.hid hv
       have HK := Lib.hid hk
       clear hv hk
       refine (gave_any HV.out HK.out (implTimes_any x1 x2 x3 v1 v2 v3 hx1 hx2 hx3 hv1 hv2 hv3 _ (HL.out _ (by repeat' (first | (with_reducible first | assumption | exact Acc.refl _ | refine Acc.alloc ?_ _ | refine Acc.setCell ?_ ?_ _) | (refine leB ?_; omega)))))).mono ?_
       rintro e W3 ⟨rfl, hb⟩
       obtain ⟨Ba, Bc, Bo, Bw⟩ : Blk W3 (W0.heap.size) [.int .i64 x1, .int .i64 x2, .int .i64 x3, .int .i64 y1, .int .i64 y2, .int .i64 y3] ∧ Blk W3 (W0.heap.size + 1) [.int .i64 0, .int .i64 0, .int .i64 c3] ∧ Blk W3 (W1.heap.size) [.int .i64 u1, .int .i64 u2, .int .i64 u3, .int .i64 v1, .int .i64 v2, .int .i64 v3] ∧ Blk W3 (W2.heap.size) [.int .i64 u1, .int .i64 u2, .int .i64 u3, .int .i64 v1, .int .i64 v2, .int .i64 v3] := by
         refine ⟨?_, ?_, ?_, ?_⟩ <;> refine Blk.keep hb ?_ <;> (repeat' (first | (with_reducible first | assumption | apply Blk.set | (refine Blk.new ?_; focus (first | rfl | (simp; done))) | refine Blk.alloc ?_ _ | refine Blk.other ?_ ?_ _) | exact eqL rfl | (refine neB ?_; omega)))
       have ca := Ba.cell
       have fa := Ba.free
       have la_W3 := Ba.lt
       have cc := Bc.cell
       have fc := Bc.free
       have lc_W3 := Bc.lt
       have co := Bo.cell
       have fo := Bo.free
       have lo_W3 := Bo.lt
       have cw := Bw.cell
       have fw := Bw.free
       have lw_W3 := Bw.lt
       have kaW3 : Acc w W3 := by
         refine Acc.call ?_ hb
         (repeat' (first | (with_reducible first | assumption | exact Acc.refl _ | refine Acc.alloc ?_ _ | refine Acc.setCell ?_ ?_ _) | (refine leB ?_; omega)))
       clear hb
       go_wp2_with fail
       obtain ⟨⟨q1, q2, q3⟩, hv⟩ : ∃ o, partsR (timesF y1 y2 y3 u1 u2 u3) = o := ⟨_, rfl⟩
       obtain ⟨kq, hk⟩ : ∃ k, okR (timesF y1 y2 y3 u1 u2 u3) = k := ⟨_, rfl⟩
       obtain ⟨hq1, hq2, hq3⟩ := parts_i64 (fun _ _ _ h => times_ok h) hv
       have HV := Lib.hid hv
       have HK := Lib.hid hk
       clear hv hk
       refine (gave_any HV.out HK.out (implTimes_any y1 y2 y3 u1 u2 u3 hy1 hy2 hy3 hu1 hu2 hu3 _ (HL.out _ (by repeat' (first | (with_reducible first | assumption | exact Acc.refl _ | refine Acc.alloc ?_ _ | refine Acc.setCell ?_ ?_ _) | (refine leB ?_; omega)))))).mono ?_
       rintro e W4 ⟨rfl, hb⟩
       obtain ⟨Ba, Bc, Bo, Bw⟩ : Blk W4 (W0.heap.size) [.int .i64 x1, .int .i64 x2, .int .i64 x3, .int .i64 y1, .int .i64 y2, .int .i64 y3] ∧ Blk W4 (W0.heap.size + 1) [.int .i64 0, .int .i64 0, .int .i64 c3] ∧ Blk W4 (W1.heap.size) [.int .i64 u1, .int .i64 u2, .int .i64 u3, .int .i64 v1, .int .i64 v2, .int .i64 v3] ∧ Blk W4 (W2.heap.size) [.int .i64 u1, .int .i64 u2, .int .i64 u3, .int .i64 v1, .int .i64 v2, .int .i64 v3] := by
         refine ⟨?_, ?_, ?_, ?_⟩ <;> refine Blk.keep hb ?_ <;> (repeat' (first | (with_reducible first | assumption | apply Blk.set | (refine Blk.new ?_; focus (first | rfl | (simp; done))) | refine Blk.alloc ?_ _ | refine Blk.other ?_ ?_ _) | exact eqL rfl | (refine neB ?_; omega)))
       have ca := Ba.cell
       have fa := Ba.free
       have la_W4 := Ba.lt
       have cc := Bc.cell
       have fc := Bc.free
       have lc_W4 := Bc.lt
       have co := Bo.cell
       have fo := Bo.free
       have lo_W4 := Bo.lt
       have cw := Bw.cell
       have fw := Bw.free
       have lw_W4 := Bw.lt
       have kaW4 : Acc w W4 := by
         refine Acc.call ?_ hb
         (repeat' (first | (with_reducible first | assumption | exact Acc.refl _ | refine Acc.alloc ?_ _ | refine Acc.setCell ?_ ?_ _) | (refine leB ?_; omega)))
       clear hb
       go_wp2_with fail
       cases ht : jpowF u1 u2 u3 v1 v2 v3 with
       | none =>
        have HN := Lib.hid ht
        clear ht
        refine (gave_none HN.out (implJPower_any u1 u2 u3 v1 v2 v3 hu1 hu2 hu3 hv1 hv2 hv3 _ (HL.out _ (by repeat' (first | (with_reducible first | assumption | exact Acc.refl _ | refine Acc.alloc ?_ _ | refine Acc.setCell ?_ ?_ _) | (refine leB ?_; omega)))))).mono ?_
        rintro e W5 ⟨rfl, hb⟩
        obtain ⟨Ba, Bc, Bo, Bw⟩ : Blk W5 (W0.heap.size) [.int .i64 x1, .int .i64 x2, .int .i64 x3, .int .i64 y1, .int .i64 y2, .int .i64 y3] ∧ Blk W5 (W0.heap.size + 1) [.int .i64 0, .int .i64 0, .int .i64 c3] ∧ Blk W5 (W1.heap.size) [.int .i64 u1, .int .i64 u2, .int .i64 u3, .int .i64 v1, .int .i64 v2, .int .i64 v3] ∧ Blk W5 (W2.heap.size) [.int .i64 u1, .int .i64 u2, .int .i64 u3, .int .i64 v1, .int .i64 v2, .int .i64 v3] := by
          refine ⟨?_, ?_, ?_, ?_⟩ <;> refine Blk.keep hb ?_ <;> (repeat' (first | (with_reducible first | assumption | apply Blk.set | (refine Blk.new ?_; focus (first | rfl | (simp; done))) | refine Blk.alloc ?_ _ | refine Blk.other ?_ ?_ _) | exact eqL rfl | (refine neB ?_; omega)))
        have ca := Ba.cell
        have fa := Ba.free
        have la_W5 := Ba.lt
        have cc := Bc.cell
        have fc := Bc.free
        have lc_W5 := Bc.lt
        have co := Bo.cell
        have fo := Bo.free
        have lo_W5 := Bo.lt
        have cw := Bw.cell
        have fw := Bw.free
        have lw_W5 := Bw.lt
        have kaW5 : Acc w W5 := by
          refine Acc.call ?_ hb
          (repeat' (first | (with_reducible first | assumption | exact Acc.refl _ | refine Acc.alloc ?_ _ | refine Acc.setCell ?_ ?_ _) | (refine leB ?_; omega)))
        clear hb
        go_wp2_with fail
        obtain ⟨⟨m1, m2, m3⟩, hv⟩ : ∃ o, partsR (jpowF x1 x2 x3 y1 y2 y3) = o := ⟨_, rfl⟩
        obtain ⟨km, hk⟩ : ∃ k, okR (jpowF x1 x2 x3 y1 y2 y3) = k := ⟨_, rfl⟩
        obtain ⟨hm1, hm2, hm3⟩ := parts_i64 (fun _ _ _ h => jpow_ok h) hv
        have HV := Lib.hid hv
        have HK := Lib.hid hk
        clear hv hk
        refine (gave_any HV.out HK.out (implJPower_any x1 x2 x3 y1 y2 y3 hx1 hx2 hx3 hy1 hy2 hy3 _ (HL.out _ (by repeat' (first | (with_reducible first | assumption | exact Acc.refl _ | refine Acc.alloc ?_ _ | refine Acc.setCell ?_ ?_ _) | (refine leB ?_; omega)))))).mono ?_
        rintro e W6 ⟨rfl, hb⟩
        obtain ⟨Ba, Bc, Bo, Bw, Bn⟩ : Blk W6 (W0.heap.size) [.int .i64 x1, .int .i64 x2, .int .i64 x3, .int .i64 y1, .int .i64 y2, .int .i64 y3] ∧ Blk W6 (W0.heap.size + 1) [.int .i64 0, .int .i64 0, .int .i64 c3] ∧ Blk W6 (W1.heap.size) [.int .i64 u1, .int .i64 u2, .int .i64 u3, .int .i64 v1, .int .i64 v2, .int .i64 v3] ∧ Blk W6 (W2.heap.size) [.int .i64 u1, .int .i64 u2, .int .i64 u3, .int .i64 v1, .int .i64 v2, .int .i64 v3] ∧ Blk W6 (W5.heap.size) [.int .i64 0, .int .i64 0, .int .i64 0] := by
          refine ⟨?_, ?_, ?_, ?_, ?_⟩ <;> refine Blk.keep hb ?_ <;> (repeat' (first | (with_reducible first | assumption | apply Blk.set | (refine Blk.new ?_; focus (first | rfl | (simp; done))) | refine Blk.alloc ?_ _ | refine Blk.other ?_ ?_ _) | exact eqL rfl | (refine neB ?_; omega)))
        have ca := Ba.cell
        have fa := Ba.free
        have la_W6 := Ba.lt
        have cc := Bc.cell
        have fc := Bc.free
        have lc_W6 := Bc.lt
        have co := Bo.cell
        have fo := Bo.free
        have lo_W6 := Bo.lt
        have cw := Bw.cell
        have fw := Bw.free
        have lw_W6 := Bw.lt
        have cn := Bn.cell
        have fn := Bn.free
        have ln_W6 := Bn.lt
        have kaW6 : Acc w W6 := by
          refine Acc.call ?_ hb
          (repeat' (first | (with_reducible first | assumption | exact Acc.refl _ | refine Acc.alloc ?_ _ | refine Acc.setCell ?_ ?_ _) | (refine leB ?_; omega)))
        clear hb
        go_wp2_with fail
        obtain ⟨⟨g1, g2, g3⟩, hv⟩ : ∃ o, partsR (powerF 0 0 c3) = o := ⟨_, rfl⟩
        obtain ⟨kg, hk⟩ : ∃ k, okR (powerF 0 0 c3) = k := ⟨_, rfl⟩
        obtain ⟨hg1, hg2, hg3⟩ := parts_i64 (fun _ _ _ h => power_ok h) hv
        have HV := Lib.hid hv
        have HK := Lib.hid hk
        clear hv hk
        refine (gave_any HV.out HK.out (implPower_any 0 0 c3 i64_0 i64_0 hc3 _ (HL.out _ (by repeat' (first | (with_reducible first | assumption | exact Acc.refl _ | refine Acc.alloc ?_ _ | refine Acc.setCell ?_ ?_ _) | (refine leB ?_; omega)))))).mono ?_
        rintro e W7 ⟨rfl, hb⟩
        obtain ⟨Ba, Bc, Bo, Bw, Bn, Bm⟩ : Blk W7 (W0.heap.size) [.int .i64 x1, .int .i64 x2, .int .i64 x3, .int .i64 y1, .int .i64 y2, .int .i64 y3] ∧ Blk W7 (W0.heap.size + 1) [.int .i64 0, .int .i64 0, .int .i64 c3] ∧ Blk W7 (W1.heap.size) [.int .i64 u1, .int .i64 u2, .int .i64 u3, .int .i64 v1, .int .i64 v2, .int .i64 v3] ∧ Blk W7 (W2.heap.size) [.int .i64 u1, .int .i64 u2, .int .i64 u3, .int .i64 v1, .int .i64 v2, .int .i64 v3] ∧ Blk W7 (W5.heap.size) [.int .i64 0, .int .i64 0, .int .i64 0] ∧ Blk W7 (W6.heap.size) [.int .i64 m1, .int .i64 m2, .int .i64 m3] := by
          refine ⟨?_, ?_, ?_, ?_, ?_, ?_⟩ <;> refine Blk.keep hb ?_ <;> (repeat' (first | (with_reducible first | assumption | apply Blk.set | (refine Blk.new ?_; focus (first | rfl | (simp; done))) | refine Blk.alloc ?_ _ | refine Blk.other ?_ ?_ _) | exact eqL rfl | (refine neB ?_; omega)))
        have ca := Ba.cell
        have fa := Ba.free
        have la_W7 := Ba.lt
        have cc := Bc.cell
        have fc := Bc.free
        have lc_W7 := Bc.lt
        have co := Bo.cell
        have fo := Bo.free
        have lo_W7 := Bo.lt
        have cw := Bw.cell
        have fw := Bw.free
        have lw_W7 := Bw.lt
        have cn := Bn.cell
        have fn := Bn.free
        have ln_W7 := Bn.lt
        have cm := Bm.cell
        have fm := Bm.free
        have lm_W7 := Bm.lt
        have kaW7 : Acc w W7 := by
          refine Acc.call ?_ hb
          (repeat' (first | (with_reducible first | assumption | exact Acc.refl _ | refine Acc.alloc ?_ _ | refine Acc.setCell ?_ ?_ _) | (refine leB ?_; omega)))
        clear hb
        go_wp2_with fail
        obtain ⟨⟨t1, t2, t3⟩, hv⟩ : ∃ o, partsR (timesF m1 m2 m3 g1 g2 g3) = o := ⟨_, rfl⟩
        obtain ⟨kt, hk⟩ : ∃ k, okR (timesF m1 m2 m3 g1 g2 g3) = k := ⟨_, rfl⟩
        obtain ⟨ht1, ht2, ht3⟩ := parts_i64 (fun _ _ _ h => times_ok h) hv
        have HV := Lib.hid hv
        have HK := Lib.hid hk
        clear hv hk
        refine (gave_any HV.out HK.out (implTimes_any m1 m2 m3 g1 g2 g3 hm1 hm2 hm3 hg1 hg2 hg3 _ (HL.out _ (by repeat' (first | (with_reducible first | assumption | exact Acc.refl _ | refine Acc.alloc ?_ _ | refine Acc.setCell ?_ ?_ _) | (refine leB ?_; omega)))))).mono ?_
        rintro e W8 ⟨rfl, hb⟩
        obtain ⟨Ba, Bc, Bo, Bw, Bn, Bm, Bg⟩ : Blk W8 (W0.heap.size) [.int .i64 x1, .int .i64 x2, .int .i64 x3, .int .i64 y1, .int .i64 y2, .int .i64 y3] ∧ Blk W8 (W0.heap.size + 1) [.int .i64 0, .int .i64 0, .int .i64 c3] ∧ Blk W8 (W1.heap.size) [.int .i64 u1, .int .i64 u2, .int .i64 u3, .int .i64 v1, .int .i64 v2, .int .i64 v3] ∧ Blk W8 (W2.heap.size) [.int .i64 u1, .int .i64 u2, .int .i64 u3, .int .i64 v1, .int .i64 v2, .int .i64 v3] ∧ Blk W8 (W5.heap.size) [.int .i64 0, .int .i64 0, .int .i64 0] ∧ Blk W8 (W6.heap.size) [.int .i64 m1, .int .i64 m2, .int .i64 m3] ∧ Blk W8 (W7.heap.size) [.int .i64 g1, .int .i64 g2, .int .i64 g3] := by
          refine ⟨?_, ?_, ?_, ?_, ?_, ?_, ?_⟩ <;> refine Blk.keep hb ?_ <;> (repeat' (first | (with_reducible first | assumption | apply Blk.set | (refine Blk.new ?_; focus (first | rfl | (simp; done))) | refine Blk.alloc ?_ _ | refine Blk.other ?_ ?_ _) | exact eqL rfl | (refine neB ?_; omega)))
        have ca := Ba.cell
        have fa := Ba.free
        have la_W8 := Ba.lt
        have cc := Bc.cell
        have fc := Bc.free
        have lc_W8 := Bc.lt
        have co := Bo.cell
        have fo := Bo.free
        have lo_W8 := Bo.lt
        have cw := Bw.cell
        have fw := Bw.free
        have lw_W8 := Bw.lt
        have cn := Bn.cell
        have fn := Bn.free
        have ln_W8 := Bn.lt
        have cm := Bm.cell
        have fm := Bm.free
        have lm_W8 := Bm.lt
        have cg := Bg.cell
        have fg := Bg.free
        have lg_W8 := Bg.lt
        have kaW8 : Acc w W8 := by
          refine Acc.call ?_ hb
          (repeat' (first | (with_reducible first | assumption | exact Acc.refl _ | refine Acc.alloc ?_ _ | refine Acc.setCell ?_ ?_ _) | (refine leB ?_; omega)))
        clear hb
        go_wp2_with fail
        all_goals
          go_ret
          refine ⟨by first | rfl | (simp [*]; done) | (simp [go_sem, *]; done), ?_⟩
          show Acc w _
          (repeat' (first | (with_reducible first | assumption | exact Acc.refl _ | refine Acc.alloc ?_ _ | refine Acc.setCell ?_ ?_ _) | (refine leB ?_; omega)))
       | some v =>
        obtain ⟨n1, n2, n3⟩ := v
        obtain ⟨hn1, hn2, hn3⟩ := okF_i64 (jpow_ok ht)
        have HN := Lib.hid ht
        clear ht
        refine (gave_some HN.out (implJPower_any u1 u2 u3 v1 v2 v3 hu1 hu2 hu3 hv1 hv2 hv3 _ (HL.out _ (by repeat' (first | (with_reducible first | assumption | exact Acc.refl _ | refine Acc.alloc ?_ _ | refine Acc.setCell ?_ ?_ _) | (refine leB ?_; omega)))))).mono ?_
        rintro e W5 ⟨rfl, hb⟩
        obtain ⟨Ba, Bc, Bo, Bw⟩ : Blk W5 (W0.heap.size) [.int .i64 x1, .int .i64 x2, .int .i64 x3, .int .i64 y1, .int .i64 y2, .int .i64 y3] ∧ Blk W5 (W0.heap.size + 1) [.int .i64 0, .int .i64 0, .int .i64 c3] ∧ Blk W5 (W1.heap.size) [.int .i64 u1, .int .i64 u2, .int .i64 u3, .int .i64 v1, .int .i64 v2, .int .i64 v3] ∧ Blk W5 (W2.heap.size) [.int .i64 u1, .int .i64 u2, .int .i64 u3, .int .i64 v1, .int .i64 v2, .int .i64 v3] := by
          refine ⟨?_, ?_, ?_, ?_⟩ <;> refine Blk.keep hb ?_ <;> (repeat' (first | (with_reducible first | assumption | apply Blk.set | (refine Blk.new ?_; focus (first | rfl | (simp; done))) | refine Blk.alloc ?_ _ | refine Blk.other ?_ ?_ _) | exact eqL rfl | (refine neB ?_; omega)))
        have ca := Ba.cell
        have fa := Ba.free
        have la_W5 := Ba.lt
        have cc := Bc.cell
        have fc := Bc.free
        have lc_W5 := Bc.lt
        have co := Bo.cell
        have fo := Bo.free
        have lo_W5 := Bo.lt
        have cw := Bw.cell
        have fw := Bw.free
        have lw_W5 := Bw.lt
        have kaW5 : Acc w W5 := by
          refine Acc.call ?_ hb
          (repeat' (first | (with_reducible first | assumption | exact Acc.refl _ | refine Acc.alloc ?_ _ | refine Acc.setCell ?_ ?_ _) | (refine leB ?_; omega)))
        clear hb
        go_wp2_with fail
        cases ht : jpowF x1 x2 x3 y1 y2 y3 with
        | none =>
         have HM := Lib.hid ht
         clear ht
         refine (gave_none HM.out (implJPower_any x1 x2 x3 y1 y2 y3 hx1 hx2 hx3 hy1 hy2 hy3 _ (HL.out _ (by repeat' (first | (with_reducible first | assumption | exact Acc.refl _ | refine Acc.alloc ?_ _ | refine Acc.setCell ?_ ?_ _) | (refine leB ?_; omega)))))).mono ?_
         rintro e W6 ⟨rfl, hb⟩
         obtain ⟨Ba, Bc, Bo, Bw, Bn⟩ : Blk W6 (W0.heap.size) [.int .i64 x1, .int .i64 x2, .int .i64 x3, .int .i64 y1, .int .i64 y2, .int .i64 y3] ∧ Blk W6 (W0.heap.size + 1) [.int .i64 0, .int .i64 0, .int .i64 c3] ∧ Blk W6 (W1.heap.size) [.int .i64 u1, .int .i64 u2, .int .i64 u3, .int .i64 v1, .int .i64 v2, .int .i64 v3] ∧ Blk W6 (W2.heap.size) [.int .i64 u1, .int .i64 u2, .int .i64 u3, .int .i64 v1, .int .i64 v2, .int .i64 v3] ∧ Blk W6 (W5.heap.size) [.int .i64 n1, .int .i64 n2, .int .i64 n3] := by
           refine ⟨?_, ?_, ?_, ?_, ?_⟩ <;> refine Blk.keep hb ?_ <;> (repeat' (first | (with_reducible first | assumption | apply Blk.set | (refine Blk.new ?_; focus (first | rfl | (simp; done))) | refine Blk.alloc ?_ _ | refine Blk.other ?_ ?_ _) | exact eqL rfl | (refine neB ?_; omega)))
         have ca := Ba.cell
         have fa := Ba.free
         have la_W6 := Ba.lt
         have cc := Bc.cell
         have fc := Bc.free
         have lc_W6 := Bc.lt
         have co := Bo.cell
         have fo := Bo.free
         have lo_W6 := Bo.lt
         have cw := Bw.cell
         have fw := Bw.free
         have lw_W6 := Bw.lt
         have cn := Bn.cell
         have fn := Bn.free
         have ln_W6 := Bn.lt
         have kaW6 : Acc w W6 := by
           refine Acc.call ?_ hb
           (repeat' (first | (with_reducible first | assumption | exact Acc.refl _ | refine Acc.alloc ?_ _ | refine Acc.setCell ?_ ?_ _) | (refine leB ?_; omega)))
         clear hb
         go_wp2_with fail
         obtain ⟨⟨g1, g2, g3⟩, hv⟩ : ∃ o, partsR (powerF 0 0 c3) = o := ⟨_, rfl⟩
         obtain ⟨kg, hk⟩ : ∃ k, okR (powerF 0 0 c3) = k := ⟨_, rfl⟩
         obtain ⟨hg1, hg2, hg3⟩ := parts_i64 (fun _ _ _ h => power_ok h) hv
         have HV := Lib.hid hv
         have HK := Lib.hid hk
         clear hv hk
         refine (gave_any HV.out HK.out (implPower_any 0 0 c3 i64_0 i64_0 hc3 _ (HL.out _ (by repeat' (first | (with_reducible first | assumption | exact Acc.refl _ | refine Acc.alloc ?_ _ | refine Acc.setCell ?_ ?_ _) | (refine leB ?_; omega)))))).mono ?_
         rintro e W7 ⟨rfl, hb⟩
         obtain ⟨Ba, Bc, Bo, Bw, Bn, Bm⟩ : Blk W7 (W0.heap.size) [.int .i64 x1, .int .i64 x2, .int .i64 x3, .int .i64 y1, .int .i64 y2, .int .i64 y3] ∧ Blk W7 (W0.heap.size + 1) [.int .i64 0, .int .i64 0, .int .i64 c3] ∧ Blk W7 (W1.heap.size) [.int .i64 u1, .int .i64 u2, .int .i64 u3, .int .i64 v1, .int .i64 v2, .int .i64 v3] ∧ Blk W7 (W2.heap.size) [.int .i64 u1, .int .i64 u2, .int .i64 u3, .int .i64 v1, .int .i64 v2, .int .i64 v3] ∧ Blk W7 (W5.heap.size) [.int .i64 n1, .int .i64 n2, .int .i64 n3] ∧ Blk W7 (W6.heap.size) [.int .i64 0, .int .i64 0, .int .i64 0] := by
           refine ⟨?_, ?_, ?_, ?_, ?_, ?_⟩ <;> refine Blk.keep hb ?_ <;> (repeat' (first | (with_reducible first | assumption | apply Blk.set | (refine Blk.new ?_; focus (first | rfl | (simp; done))) | refine Blk.alloc ?_ _ | refine Blk.other ?_ ?_ _) | exact eqL rfl | (refine neB ?_; omega)))
         have ca := Ba.cell
         have fa := Ba.free
         have la_W7 := Ba.lt
         have cc := Bc.cell
         have fc := Bc.free
         have lc_W7 := Bc.lt
         have co := Bo.cell
         have fo := Bo.free
         have lo_W7 := Bo.lt
         have cw := Bw.cell
         have fw := Bw.free
         have lw_W7 := Bw.lt
         have cn := Bn.cell
         have fn := Bn.free
         have ln_W7 := Bn.lt
         have cm := Bm.cell
         have fm := Bm.free
         have lm_W7 := Bm.lt
         have kaW7 : Acc w W7 := by
           refine Acc.call ?_ hb
           (repeat' (first | (with_reducible first | assumption | exact Acc.refl _ | refine Acc.alloc ?_ _ | refine Acc.setCell ?_ ?_ _) | (refine leB ?_; omega)))
         clear hb
         go_wp2_with fail
         obtain ⟨⟨t1, t2, t3⟩, hv⟩ : ∃ o, partsR (timesF 0 0 0 g1 g2 g3) = o := ⟨_, rfl⟩
         obtain ⟨kt, hk⟩ : ∃ k, okR (timesF 0 0 0 g1 g2 g3) = k := ⟨_, rfl⟩
         obtain ⟨ht1, ht2, ht3⟩ := parts_i64 (fun _ _ _ h => times_ok h) hv
         have HV := Lib.hid hv
         have HK := Lib.hid hk
         clear hv hk
         refine (gave_any HV.out HK.out (implTimes_any 0 0 0 g1 g2 g3 i64_0 i64_0 i64_0 hg1 hg2 hg3 _ (HL.out _ (by repeat' (first | (with_reducible first | assumption | exact Acc.refl _ | refine Acc.alloc ?_ _ | refine Acc.setCell ?_ ?_ _) | (refine leB ?_; omega)))))).mono ?_
         rintro e W8 ⟨rfl, hb⟩
         obtain ⟨Ba, Bc, Bo, Bw, Bn, Bm, Bg⟩ : Blk W8 (W0.heap.size) [.int .i64 x1, .int .i64 x2, .int .i64 x3, .int .i64 y1, .int .i64 y2, .int .i64 y3] ∧ Blk W8 (W0.heap.size + 1) [.int .i64 0, .int .i64 0, .int .i64 c3] ∧ Blk W8 (W1.heap.size) [.int .i64 u1, .int .i64 u2, .int .i64 u3, .int .i64 v1, .int .i64 v2, .int .i64 v3] ∧ Blk W8 (W2.heap.size) [.int .i64 u1, .int .i64 u2, .int .i64 u3, .int .i64 v1, .int .i64 v2, .int .i64 v3] ∧ Blk W8 (W5.heap.size) [.int .i64 n1, .int .i64 n2, .int .i64 n3] ∧ Blk W8 (W6.heap.size) [.int .i64 0, .int .i64 0, .int .i64 0] ∧ Blk W8 (W7.heap.size) [.int .i64 g1, .int .i64 g2, .int .i64 g3] := by
           refine ⟨?_, ?_, ?_, ?_, ?_, ?_, ?_⟩ <;> refine Blk.keep hb ?_ <;> (repeat' (first | (with_reducible first | assumption | apply Blk.set | (refine Blk.new ?_; focus (first | rfl | (simp; done))) | refine Blk.alloc ?_ _ | refine Blk.other ?_ ?_ _) | exact eqL rfl | (refine neB ?_; omega)))
         have ca := Ba.cell
         have fa := Ba.free
         have la_W8 := Ba.lt
         have cc := Bc.cell
         have fc := Bc.free
         have lc_W8 := Bc.lt
         have co := Bo.cell
         have fo := Bo.free
         have lo_W8 := Bo.lt
         have cw := Bw.cell
         have fw := Bw.free
         have lw_W8 := Bw.lt
         have cn := Bn.cell
         have fn := Bn.free
         have ln_W8 := Bn.lt
         have cm := Bm.cell
         have fm := Bm.free
         have lm_W8 := Bm.lt
         have cg := Bg.cell
         have fg := Bg.free
         have lg_W8 := Bg.lt
         have kaW8 : Acc w W8 := by
           refine Acc.call ?_ hb
           (repeat' (first | (with_reducible first | assumption | exact Acc.refl _ | refine Acc.alloc ?_ _ | refine Acc.setCell ?_ ?_ _) | (refine leB ?_; omega)))
         clear hb
         go_wp2_with fail
         all_goals
           go_ret
           refine ⟨by first | rfl | (simp [*]; done) | (simp [go_sem, *]; done), ?_⟩
           show Acc w _
           (repeat' (first | (with_reducible first | assumption | exact Acc.refl _ | refine Acc.alloc ?_ _ | refine Acc.setCell ?_ ?_ _) | (refine leB ?_; omega)))
        | some v =>
         obtain ⟨m1, m2, m3⟩ := v
         obtain ⟨hm1, hm2, hm3⟩ := okF_i64 (jpow_ok ht)
         have HM := Lib.hid ht
         clear ht
         refine (gave_some HM.out (implJPower_any x1 x2 x3 y1 y2 y3 hx1 hx2 hx3 hy1 hy2 hy3 _ (HL.out _ (by repeat' (first | (with_reducible first | assumption | exact Acc.refl _ | refine Acc.alloc ?_ _ | refine Acc.setCell ?_ ?_ _) | (refine leB ?_; omega)))))).mono ?_
         rintro e W6 ⟨rfl, hb⟩
         obtain ⟨Ba, Bc, Bo, Bw, Bn⟩ : Blk W6 (W0.heap.size) [.int .i64 x1, .int .i64 x2, .int .i64 x3, .int .i64 y1, .int .i64 y2, .int .i64 y3] ∧ Blk W6 (W0.heap.size + 1) [.int .i64 0, .int .i64 0, .int .i64 c3] ∧ Blk W6 (W1.heap.size) [.int .i64 u1, .int .i64 u2, .int .i64 u3, .int .i64 v1, .int .i64 v2, .int .i64 v3] ∧ Blk W6 (W2.heap.size) [.int .i64 u1, .int .i64 u2, .int .i64 u3, .int .i64 v1, .int .i64 v2, .int .i64 v3] ∧ Blk W6 (W5.heap.size) [.int .i64 n1, .int .i64 n2, .int .i64 n3] := by
           refine ⟨?_, ?_, ?_, ?_, ?_⟩ <;> refine Blk.keep hb ?_ <;> (repeat' (first | (with_reducible first | assumption | apply Blk.set | (refine Blk.new ?_; focus (first | rfl | (simp; done))) | refine Blk.alloc ?_ _ | refine Blk.other ?_ ?_ _) | exact eqL rfl | (refine neB ?_; omega)))
         have ca := Ba.cell
         have fa := Ba.free
         have la_W6 := Ba.lt
         have cc := Bc.cell
         have fc := Bc.free
         have lc_W6 := Bc.lt
         have co := Bo.cell
         have fo := Bo.free
         have lo_W6 := Bo.lt
         have cw := Bw.cell
         have fw := Bw.free
         have lw_W6 := Bw.lt
         have cn := Bn.cell
         have fn := Bn.free
         have ln_W6 := Bn.lt
         have kaW6 : Acc w W6 := by
           refine Acc.call ?_ hb
           (repeat' (first | (with_reducible first | assumption | exact Acc.refl _ | refine Acc.alloc ?_ _ | refine Acc.setCell ?_ ?_ _) | (refine leB ?_; omega)))
         clear hb
         go_wp2_with fail
         cases ht : powerF 0 0 c3 with
         | none =>
          have HG := Lib.hid ht
          clear ht
          refine (gave_none HG.out (implPower_any 0 0 c3 i64_0 i64_0 hc3 _ (HL.out _ (by repeat' (first | (with_reducible first | assumption | exact Acc.refl _ | refine Acc.alloc ?_ _ | refine Acc.setCell ?_ ?_ _) | (refine leB ?_; omega)))))).mono ?_
          rintro e W7 ⟨rfl, hb⟩
          obtain ⟨Ba, Bc, Bo, Bw, Bn, Bm⟩ : Blk W7 (W0.heap.size) [.int .i64 x1, .int .i64 x2, .int .i64 x3, .int .i64 y1, .int .i64 y2, .int .i64 y3] ∧ Blk W7 (W0.heap.size + 1) [.int .i64 0, .int .i64 0, .int .i64 c3] ∧ Blk W7 (W1.heap.size) [.int .i64 u1, .int .i64 u2, .int .i64 u3, .int .i64 v1, .int .i64 v2, .int .i64 v3] ∧ Blk W7 (W2.heap.size) [.int .i64 u1, .int .i64 u2, .int .i64 u3, .int .i64 v1, .int .i64 v2, .int .i64 v3] ∧ Blk W7 (W5.heap.size) [.int .i64 n1, .int .i64 n2, .int .i64 n3] ∧ Blk W7 (W6.heap.size) [.int .i64 m1, .int .i64 m2, .int .i64 m3] := by
            refine ⟨?_, ?_, ?_, ?_, ?_, ?_⟩ <;> refine Blk.keep hb ?_ <;> (repeat' (first | (with_reducible first | assumption | apply Blk.set | (refine Blk.new ?_; focus (first | rfl | (simp; done))) | refine Blk.alloc ?_ _ | refine Blk.other ?_ ?_ _) | exact eqL rfl | (refine neB ?_; omega)))
          have ca := Ba.cell
          have fa := Ba.free
          have la_W7 := Ba.lt
          have cc := Bc.cell
          have fc := Bc.free
          have lc_W7 := Bc.lt
          have co := Bo.cell
          have fo := Bo.free
          have lo_W7 := Bo.lt
          have cw := Bw.cell
          have fw := Bw.free
          have lw_W7 := Bw.lt
          have cn := Bn.cell
          have fn := Bn.free
          have ln_W7 := Bn.lt
          have cm := Bm.cell
          have fm := Bm.free
          have lm_W7 := Bm.lt
          have kaW7 : Acc w W7 := by
            refine Acc.call ?_ hb
            (repeat' (first | (with_reducible first | assumption | exact Acc.refl _ | refine Acc.alloc ?_ _ | refine Acc.setCell ?_ ?_ _) | (refine leB ?_; omega)))
          clear hb
          go_wp2_with fail
          obtain ⟨⟨t1, t2, t3⟩, hv⟩ : ∃ o, partsR (timesF m1 m2 m3 0 0 0) = o := ⟨_, rfl⟩
          obtain ⟨kt, hk⟩ : ∃ k, okR (timesF m1 m2 m3 0 0 0) = k := ⟨_, rfl⟩
          obtain ⟨ht1, ht2, ht3⟩ := parts_i64 (fun _ _ _ h => times_ok h) hv
          have HV := Lib.hid hv
          have HK := Lib.hid hk
          clear hv hk
          refine (gave_any HV.out HK.out (implTimes_any m1 m2 m3 0 0 0 hm1 hm2 hm3 i64_0 i64_0 i64_0 _ (HL.out _ (by repeat' (first | (with_reducible first | assumption | exact Acc.refl _ | refine Acc.alloc ?_ _ | refine Acc.setCell ?_ ?_ _) | (refine leB ?_; omega)))))).mono ?_
          rintro e W8 ⟨rfl, hb⟩
          obtain ⟨Ba, Bc, Bo, Bw, Bn, Bm, Bg⟩ : Blk W8 (W0.heap.size) [.int .i64 x1, .int .i64 x2, .int .i64 x3, .int .i64 y1, .int .i64 y2, .int .i64 y3] ∧ Blk W8 (W0.heap.size + 1) [.int .i64 0, .int .i64 0, .int .i64 c3] ∧ Blk W8 (W1.heap.size) [.int .i64 u1, .int .i64 u2, .int .i64 u3, .int .i64 v1, .int .i64 v2, .int .i64 v3] ∧ Blk W8 (W2.heap.size) [.int .i64 u1, .int .i64 u2, .int .i64 u3, .int .i64 v1, .int .i64 v2, .int .i64 v3] ∧ Blk W8 (W5.heap.size) [.int .i64 n1, .int .i64 n2, .int .i64 n3] ∧ Blk W8 (W6.heap.size) [.int .i64 m1, .int .i64 m2, .int .i64 m3] ∧ Blk W8 (W7.heap.size) [.int .i64 0, .int .i64 0, .int .i64 0] := by
            refine ⟨?_, ?_, ?_, ?_, ?_, ?_, ?_⟩ <;> refine Blk.keep hb ?_ <;> (repeat' (first | (with_reducible first | assumption | apply Blk.set | (refine Blk.new ?_; focus (first | rfl | (simp; done))) | refine Blk.alloc ?_ _ | refine Blk.other ?_ ?_ _) | exact eqL rfl | (refine neB ?_; omega)))
          have ca := Ba.cell
          have fa := Ba.free
          have la_W8 := Ba.lt
          have cc := Bc.cell
          have fc := Bc.free
          have lc_W8 := Bc.lt
          have co := Bo.cell
          have fo := Bo.free
          have lo_W8 := Bo.lt
          have cw := Bw.cell
          have fw := Bw.free
          have lw_W8 := Bw.lt
          have cn := Bn.cell
          have fn := Bn.free
          have ln_W8 := Bn.lt
          have cm := Bm.cell
          have fm := Bm.free
          have lm_W8 := Bm.lt
          have cg := Bg.cell
          have fg := Bg.free
          have lg_W8 := Bg.lt
          have kaW8 : Acc w W8 := by
            refine Acc.call ?_ hb
            (repeat' (first | (with_reducible first | assumption | exact Acc.refl _ | refine Acc.alloc ?_ _ | refine Acc.setCell ?_ ?_ _) | (refine leB ?_; omega)))
          clear hb
          go_wp2_with fail
          all_goals
            go_ret
            refine ⟨by first | rfl | (simp [*]; done) | (simp [go_sem, *]; done), ?_⟩
            show Acc w _
            (repeat' (first | (with_reducible first | assumption | exact Acc.refl _ | refine Acc.alloc ?_ _ | refine Acc.setCell ?_ ?_ _) | (refine leB ?_; omega)))
         | some v =>
          obtain ⟨g1, g2, g3⟩ := v
          obtain ⟨hg1, hg2, hg3⟩ := okF_i64 (power_ok ht)
          have HG := Lib.hid ht
          clear ht
          refine (gave_some HG.out (implPower_any 0 0 c3 i64_0 i64_0 hc3 _ (HL.out _ (by repeat' (first | (with_reducible first | assumption | exact Acc.refl _ | refine Acc.alloc ?_ _ | refine Acc.setCell ?_ ?_ _) | (refine leB ?_; omega)))))).mono ?_
          rintro e W7 ⟨rfl, hb⟩
          obtain ⟨Ba, Bc, Bo, Bw, Bn, Bm⟩ : Blk W7 (W0.heap.size) [.int .i64 x1, .int .i64 x2, .int .i64 x3, .int .i64 y1, .int .i64 y2, .int .i64 y3] ∧ Blk W7 (W0.heap.size + 1) [.int .i64 0, .int .i64 0, .int .i64 c3] ∧ Blk W7 (W1.heap.size) [.int .i64 u1, .int .i64 u2, .int .i64 u3, .int .i64 v1, .int .i64 v2, .int .i64 v3] ∧ Blk W7 (W2.heap.size) [.int .i64 u1, .int .i64 u2, .int .i64 u3, .int .i64 v1, .int .i64 v2, .int .i64 v3] ∧ Blk W7 (W5.heap.size) [.int .i64 n1, .int .i64 n2, .int .i64 n3] ∧ Blk W7 (W6.heap.size) [.int .i64 m1, .int .i64 m2, .int .i64 m3] := by
            refine ⟨?_, ?_, ?_, ?_, ?_, ?_⟩ <;> refine Blk.keep hb ?_ <;> (repeat' (first | (with_reducible first | assumption | apply Blk.set | (refine Blk.new ?_; focus (first | rfl | (simp; done))) | refine Blk.alloc ?_ _ | refine Blk.other ?_ ?_ _) | exact eqL rfl | (refine neB ?_; omega)))
          have ca := Ba.cell
          have fa := Ba.free
          have la_W7 := Ba.lt
          have cc := Bc.cell
          have fc := Bc.free
          have lc_W7 := Bc.lt
          have co := Bo.cell
          have fo := Bo.free
          have lo_W7 := Bo.lt
          have cw := Bw.cell
          have fw := Bw.free
          have lw_W7 := Bw.lt
          have cn := Bn.cell
          have fn := Bn.free
          have ln_W7 := Bn.lt
          have cm := Bm.cell
          have fm := Bm.free
          have lm_W7 := Bm.lt
          have kaW7 : Acc w W7 := by
            refine Acc.call ?_ hb
            (repeat' (first | (with_reducible first | assumption | exact Acc.refl _ | refine Acc.alloc ?_ _ | refine Acc.setCell ?_ ?_ _) | (refine leB ?_; omega)))
          clear hb
          go_wp2_with fail
          cases ht : timesF m1 m2 m3 g1 g2 g3 with
          | none =>
           have HT := Lib.hid ht
           clear ht
           refine (gave_none HT.out (implTimes_any m1 m2 m3 g1 g2 g3 hm1 hm2 hm3 hg1 hg2 hg3 _ (HL.out _ (by repeat' (first | (with_reducible first | assumption | exact Acc.refl _ | refine Acc.alloc ?_ _ | refine Acc.setCell ?_ ?_ _) | (refine leB ?_; omega)))))).mono ?_
           rintro e W8 ⟨rfl, hb⟩
           obtain ⟨Ba, Bc, Bo, Bw, Bn, Bm, Bg⟩ : Blk W8 (W0.heap.size) [.int .i64 x1, .int .i64 x2, .int .i64 x3, .int .i64 y1, .int .i64 y2, .int .i64 y3] ∧ Blk W8 (W0.heap.size + 1) [.int .i64 0, .int .i64 0, .int .i64 c3] ∧ Blk W8 (W1.heap.size) [.int .i64 u1, .int .i64 u2, .int .i64 u3, .int .i64 v1, .int .i64 v2, .int .i64 v3] ∧ Blk W8 (W2.heap.size) [.int .i64 u1, .int .i64 u2, .int .i64 u3, .int .i64 v1, .int .i64 v2, .int .i64 v3] ∧ Blk W8 (W5.heap.size) [.int .i64 n1, .int .i64 n2, .int .i64 n3] ∧ Blk W8 (W6.heap.size) [.int .i64 m1, .int .i64 m2, .int .i64 m3] ∧ Blk W8 (W7.heap.size) [.int .i64 g1, .int .i64 g2, .int .i64 g3] := by
             refine ⟨?_, ?_, ?_, ?_, ?_, ?_, ?_⟩ <;> refine Blk.keep hb ?_ <;> (repeat' (first | (with_reducible first | assumption | apply Blk.set | (refine Blk.new ?_; focus (first | rfl | (simp; done))) | refine Blk.alloc ?_ _ | refine Blk.other ?_ ?_ _) | exact eqL rfl | (refine neB ?_; omega)))
           have ca := Ba.cell
           have fa := Ba.free
           have la_W8 := Ba.lt
           have cc := Bc.cell
           have fc := Bc.free
           have lc_W8 := Bc.lt
           have co := Bo.cell
           have fo := Bo.free
           have lo_W8 := Bo.lt
           have cw := Bw.cell
           have fw := Bw.free
           have lw_W8 := Bw.lt
           have cn := Bn.cell
           have fn := Bn.free
           have ln_W8 := Bn.lt
           have cm := Bm.cell
           have fm := Bm.free
           have lm_W8 := Bm.lt
           have cg := Bg.cell
           have fg := Bg.free
           have lg_W8 := Bg.lt
           have kaW8 : Acc w W8 := by
             refine Acc.call ?_ hb
             (repeat' (first | (with_reducible first | assumption | exact Acc.refl _ | refine Acc.alloc ?_ _ | refine Acc.setCell ?_ ?_ _) | (refine leB ?_; omega)))
           clear hb
           go_wp2_with fail
           all_goals
             go_ret
             refine ⟨by first | rfl | (simp [*]; done) | (simp [go_sem, *]; done), ?_⟩
             show Acc w _
             (repeat' (first | (with_reducible first | assumption | exact Acc.refl _ | refine Acc.alloc ?_ _ | refine Acc.setCell ?_ ?_ _) | (refine leB ?_; omega)))
          | some v =>
           obtain ⟨t1, t2, t3⟩ := v
           obtain ⟨ht1, ht2, ht3⟩ := okF_i64 (times_ok ht)
           have HT := Lib.hid ht
           clear ht
           refine (gave_some HT.out (implTimes_any m1 m2 m3 g1 g2 g3 hm1 hm2 hm3 hg1 hg2 hg3 _ (HL.out _ (by repeat' (first | (with_reducible first | assumption | exact Acc.refl _ | refine Acc.alloc ?_ _ | refine Acc.setCell ?_ ?_ _) | (refine leB ?_; omega)))))).mono ?_
           rintro e W8 ⟨rfl, hb⟩
           obtain ⟨Ba, Bc, Bo, Bw, Bn, Bm, Bg⟩ : Blk W8 (W0.heap.size) [.int .i64 x1, .int .i64 x2, .int .i64 x3, .int .i64 y1, .int .i64 y2, .int .i64 y3] ∧ Blk W8 (W0.heap.size + 1) [.int .i64 0, .int .i64 0, .int .i64 c3] ∧ Blk W8 (W1.heap.size) [.int .i64 u1, .int .i64 u2, .int .i64 u3, .int .i64 v1, .int .i64 v2, .int .i64 v3] ∧ Blk W8 (W2.heap.size) [.int .i64 u1, .int .i64 u2, .int .i64 u3, .int .i64 v1, .int .i64 v2, .int .i64 v3] ∧ Blk W8 (W5.heap.size) [.int .i64 n1, .int .i64 n2, .int .i64 n3] ∧ Blk W8 (W6.heap.size) [.int .i64 m1, .int .i64 m2, .int .i64 m3] ∧ Blk W8 (W7.heap.size) [.int .i64 g1, .int .i64 g2, .int .i64 g3] := by
             refine ⟨?_, ?_, ?_, ?_, ?_, ?_, ?_⟩ <;> refine Blk.keep hb ?_ <;> (repeat' (first | (with_reducible first | assumption | apply Blk.set | (refine Blk.new ?_; focus (first | rfl | (simp; done))) | refine Blk.alloc ?_ _ | refine Blk.other ?_ ?_ _) | exact eqL rfl | (refine neB ?_; omega)))
           have ca := Ba.cell
           have fa := Ba.free
           have la_W8 := Ba.lt
           have cc := Bc.cell
           have fc := Bc.free
           have lc_W8 := Bc.lt
           have co := Bo.cell
           have fo := Bo.free
           have lo_W8 := Bo.lt
           have cw := Bw.cell
           have fw := Bw.free
           have lw_W8 := Bw.lt
           have cn := Bn.cell
           have fn := Bn.free
           have ln_W8 := Bn.lt
           have cm := Bm.cell
           have fm := Bm.free
           have lm_W8 := Bm.lt
           have cg := Bg.cell
           have fg := Bg.free
           have lg_W8 := Bg.lt
           have kaW8 : Acc w W8 := by
             refine Acc.call ?_ hb
             (repeat' (first | (with_reducible first | assumption | exact Acc.refl _ | refine Acc.alloc ?_ _ | refine Acc.setCell ?_ ?_ _) | (refine leB ?_; omega)))
           clear hb
           go_wp2_with fail
           all_goals obtain ⟨⟩ := times_power HO.out HN.out HM.out HG.out HT.out
           all_goals try exact absurd rfl (by assumption)
           all_goals
             go_ret
             refine ⟨by first | rfl | (simp [*]; done) | (simp [go_sem, *]; done), ?_⟩
             show Acc w _
             (repeat' (first | (with_reducible first | assumption | exact Acc.refl _ | refine Acc.alloc ?_ _ | refine Acc.setCell ?_ ?_ _) | (refine leB ?_; omega)))
    · skip
      cases ho : jtimesF x1 x2 x3 y1 y2 y3 0 c2 c3 with
      | none =>
       have HO := Lib.hid ho
       clear ho
       refine (gave6_none HO.out (implJTimes_any x1 x2 x3 y1 y2 y3 0 c2 c3 hx1 hx2 hx3 hy1 hy2 hy3 i64_0 hc2 hc3 _ (HL.out _ (by repeat' (first | (with_reducible first | assumption | exact Acc.refl _ | refine Acc.alloc ?_ _ | refine Acc.setCell ?_ ?_ _) | (refine leB ?_; omega)))))).mono ?_
       rintro e W1 ⟨rfl, hb⟩
       obtain ⟨Ba, Bc⟩ : Blk W1 (W0.heap.size) [.int .i64 x1, .int .i64 x2, .int .i64 x3, .int .i64 y1, .int .i64 y2, .int .i64 y3] ∧ Blk W1 (W0.heap.size + 1) [.int .i64 0, .int .i64 c2, .int .i64 c3] := by
         refine ⟨?_, ?_⟩ <;> refine Blk.keep hb ?_ <;> (repeat' (first | (with_reducible first | assumption | apply Blk.set | (refine Blk.new ?_; focus (first | rfl | (simp; done))) | refine Blk.alloc ?_ _ | refine Blk.other ?_ ?_ _) | exact eqL rfl | (refine neB ?_; omega)))
       have ca := Ba.cell
       have fa := Ba.free
       have la_W1 := Ba.lt
       have cc := Bc.cell
       have fc := Bc.free
       have lc_W1 := Bc.lt
       have kaW1 : Acc w W1 := by
         refine Acc.call ?_ hb
         (repeat' (first | (with_reducible first | assumption | exact Acc.refl _ | refine Acc.alloc ?_ _ | refine Acc.setCell ?_ ?_ _) | (refine leB ?_; omega)))
       clear hb
       go_wp2_with fail
       refine (gave6_none HO.out (specJTimes_any x1 x2 x3 y1 y2 y3 0 c2 c3 _)).mono ?_
       rintro e W2 ⟨rfl, hb⟩
       obtain ⟨Ba, Bc, Bo⟩ : Blk W2 (W0.heap.size) [.int .i64 x1, .int .i64 x2, .int .i64 x3, .int .i64 y1, .int .i64 y2, .int .i64 y3] ∧ Blk W2 (W0.heap.size + 1) [.int .i64 0, .int .i64 c2, .int .i64 c3] ∧ Blk W2 (W1.heap.size) [.int .i64 0, .int .i64 0, .int .i64 0, .int .i64 0, .int .i64 0, .int .i64 0] := by
         refine ⟨?_, ?_, ?_⟩ <;> refine Blk.keep hb ?_ <;> (repeat' (first | (with_reducible first | assumption | apply Blk.set | (refine Blk.new ?_; focus (first | rfl | (simp; done))) | refine Blk.alloc ?_ _ | refine Blk.other ?_ ?_ _) | exact eqL rfl | (refine neB ?_; omega)))
       have ca := Ba.cell
       have fa := Ba.free
       have la_W2 := Ba.lt
       have cc := Bc.cell
       have fc := Bc.free
       have lc_W2 := Bc.lt
       have co := Bo.cell
       have fo := Bo.free
       have lo_W2 := Bo.lt
       have kaW2 : Acc w W2 := by
         refine Acc.call ?_ hb
         (repeat' (first | (with_reducible first | assumption | exact Acc.refl _ | refine Acc.alloc ?_ _ | refine Acc.setCell ?_ ?_ _) | (refine leB ?_; omega)))
       clear hb
       go_wp2_with fail
       go_ret
       refine ⟨rfl, ?_⟩
       show Acc w _
       (repeat' (first | (with_reducible first | assumption | exact Acc.refl _ | refine Acc.alloc ?_ _ | refine Acc.setCell ?_ ?_ _) | (refine leB ?_; omega)))
      | some v =>
       obtain ⟨⟨u1, u2, u3⟩, v1, v2, v3⟩ := v
       obtain ⟨hu1, hu2, hu3⟩ := okF_i64 (jtimes_ok ho).1
       obtain ⟨hv1, hv2, hv3⟩ := okF_i64 (jtimes_ok ho).2
       have HO := Lib.hid ho
       clear ho
       refine (gave6_some HO.out (implJTimes_any x1 x2 x3 y1 y2 y3 0 c2 c3 hx1 hx2 hx3 hy1 hy2 hy3 i64_0 hc2 hc3 _ (HL.out _ (by repeat' (first | (with_reducible first | assumption | exact Acc.refl _ | refine Acc.alloc ?_ _ | refine Acc.setCell ?_ ?_ _) | (refine leB ?_; omega)))))).mono ?_
       rintro e W1 ⟨rfl, hb⟩
       obtain ⟨Ba, Bc⟩ : Blk W1 (W0.heap.size) [.int .i64 x1, .int .i64 x2, .int .i64 x3, .int .i64 y1, .int .i64 y2, .int .i64 y3] ∧ Blk W1 (W0.heap.size + 1) [.int .i64 0, .int .i64 c2, .int .i64 c3] := by
         refine ⟨?_, ?_⟩ <;> refine Blk.keep hb ?_ <;> (repeat' (first | (with_reducible first | assumption | apply Blk.set | (refine Blk.new ?_; focus (first | rfl | (simp; done))) | refine Blk.alloc ?_ _ | refine Blk.other ?_ ?_ _) | exact eqL rfl | (refine neB ?_; omega)))
       have ca := Ba.cell
       have fa := Ba.free
       have la_W1 := Ba.lt
       have cc := Bc.cell
       have fc := Bc.free
       have lc_W1 := Bc.lt
       have kaW1 : Acc w W1 := by
         refine Acc.call ?_ hb
         (repeat' (first | (with_reducible first | assumption | exact Acc.refl _ | refine Acc.alloc ?_ _ | refine Acc.setCell ?_ ?_ _) | (refine leB ?_; omega)))
       clear hb
       go_wp2_with fail
       refine (gave6_some HO.out (specJTimes_any x1 x2 x3 y1 y2 y3 0 c2 c3 _)).mono ?_
       rintro e W2 ⟨rfl, hb⟩
       obtain ⟨Ba, Bc, Bo⟩ : Blk W2 (W0.heap.size) [.int .i64 x1, .int .i64 x2, .int .i64 x3, .int .i64 y1, .int .i64 y2, .int .i64 y3] ∧ Blk W2 (W0.heap.size + 1) [.int .i64 0, .int .i64 c2, .int .i64 c3] ∧ Blk W2 (W1.heap.size) [.int .i64 u1, .int .i64 u2, .int .i64 u3, .int .i64 v1, .int .i64 v2, .int .i64 v3] := by
         refine ⟨?_, ?_, ?_⟩ <;> refine Blk.keep hb ?_ <;> (repeat' (first | (with_reducible first | assumption | apply Blk.set | (refine Blk.new ?_; focus (first | rfl | (simp; done))) | refine Blk.alloc ?_ _ | refine Blk.other ?_ ?_ _) | exact eqL rfl | (refine neB ?_; omega)))
       have ca := Ba.cell
       have fa := Ba.free
       have la_W2 := Ba.lt
       have cc := Bc.cell
       have fc := Bc.free
       have lc_W2 := Bc.lt
       have co := Bo.cell
       have fo := Bo.free
       have lo_W2 := Bo.lt
       have kaW2 : Acc w W2 := by
         refine Acc.call ?_ hb
         (repeat' (first | (with_reducible first | assumption | exact Acc.refl _ | refine Acc.alloc ?_ _ | refine Acc.setCell ?_ ?_ _) | (refine leB ?_; omega)))
       clear hb
       go_wp2_with fail
       cases ht : timesF x1 x2 x3 v1 v2 v3 with
       | none =>
        have HP := Lib.hid ht
        clear ht
        refine (gave_none HP.out (implTimes_any x1 x2 x3 v1 v2 v3 hx1 hx2 hx3 hv1 hv2 hv3 _ (HL.out _ (by repeat' (first | (with_reducible first | assumption | exact Acc.refl _ | refine Acc.alloc ?_ _ | refine Acc.setCell ?_ ?_ _) | (refine leB ?_; omega)))))).mono ?_
        rintro e W3 ⟨rfl, hb⟩
        obtain ⟨Ba, Bc, Bo, Bw⟩ : Blk W3 (W0.heap.size) [.int .i64 x1, .int .i64 x2, .int .i64 x3, .int .i64 y1, .int .i64 y2, .int .i64 y3] ∧ Blk W3 (W0.heap.size + 1) [.int .i64 0, .int .i64 c2, .int .i64 c3] ∧ Blk W3 (W1.heap.size) [.int .i64 u1, .int .i64 u2, .int .i64 u3, .int .i64 v1, .int .i64 v2, .int .i64 v3] ∧ Blk W3 (W2.heap.size) [.int .i64 u1, .int .i64 u2, .int .i64 u3, .int .i64 v1, .int .i64 v2, .int .i64 v3] := by
          refine ⟨?_, ?_, ?_, ?_⟩ <;> refine Blk.keep hb ?_ <;> (repeat' (first | (with_reducible first | assumption | apply Blk.set | (refine Blk.new ?_; focus (first | rfl | (simp; done))) | refine Blk.alloc ?_ _ | refine Blk.other ?_ ?_ _) | exact eqL rfl | (refine neB ?_; omega)))
        have ca := Ba.cell
        have fa := Ba.free
        have la_W3 := Ba.lt
        have cc := Bc.cell
        have fc := Bc.free
        have lc_W3 := Bc.lt
        have co := Bo.cell
        have fo := Bo.free
        have lo_W3 := Bo.lt
        have cw := Bw.cell
        have fw := Bw.free
        have lw_W3 := Bw.lt
        have kaW3 : Acc w W3 := by
          refine Acc.call ?_ hb
          (repeat' (first | (with_reducible first | assumption | exact Acc.refl _ | refine Acc.alloc ?_ _ | refine Acc.setCell ?_ ?_ _) | (refine leB ?_; omega)))
        clear hb
        go_wp2_with fail
        obtain ⟨⟨q1, q2, q3⟩, hv⟩ : ∃ o, partsR (timesF y1 y2 y3 u1 u2 u3) = o := ⟨_, rfl⟩
        obtain ⟨kq, hk⟩ : ∃ k, okR (timesF y1 y2 y3 u1 u2 u3) = k := ⟨_, rfl⟩
        obtain ⟨hq1, hq2, hq3⟩ := parts_i64 (fun _ _ _ h => times_ok h) hv
        have HV := Lib.hid hv
        have HK := Lib.hid hk
        clear hv hk
        refine (gave_any HV.out HK.out (implTimes_any y1 y2 y3 u1 u2 u3 hy1 hy2 hy3 hu1 hu2 hu3 _ (HL.out _ (by repeat' (first | (with_reducible first | assumption | exact Acc.refl _ | refine Acc.alloc ?_ _ | refine Acc.setCell ?_ ?_ _) | (refine leB ?_; omega)))))).mono ?_
        rintro e W4 ⟨rfl, hb⟩
        obtain ⟨Ba, Bc, Bo, Bw⟩ : Blk W4 (W0.heap.size) [.int .i64 x1, .int .i64 x2, .int .i64 x3, .int .i64 y1, .int .i64 y2, .int .i64 y3] ∧ Blk W4 (W0.heap.size + 1) [.int .i64 0, .int .i64 c2, .int .i64 c3] ∧ Blk W4 (W1.heap.size) [.int .i64 u1, .int .i64 u2, .int .i64 u3, .int .i64 v1, .int .i64 v2, .int .i64 v3] ∧ Blk W4 (W2.heap.size) [.int .i64 u1, .int .i64 u2, .int .i64 u3, .int .i64 v1, .int .i64 v2, .int .i64 v3] := by
          refine ⟨?_, ?_, ?_, ?_⟩ <;> refine Blk.keep hb ?_ <;> (repeat' (first | (with_reducible first | assumption | apply Blk.set | (refine Blk.new ?_; focus (first | rfl | (simp; done))) | refine Blk.alloc ?_ _ | refine Blk.other ?_ ?_ _) | exact eqL rfl | (refine neB ?_; omega)))
        have ca := Ba.cell
        have fa := Ba.free
        have la_W4 := Ba.lt
        have cc := Bc.cell
        have fc := Bc.free
        have lc_W4 := Bc.lt
        have co := Bo.cell
        have fo := Bo.free
        have lo_W4 := Bo.lt
        have cw := Bw.cell
        have fw := Bw.free
        have lw_W4 := Bw.lt
        have kaW4 : Acc w W4 := by
          refine Acc.call ?_ hb
          (repeat' (first | (with_reducible first | assumption | exact Acc.refl _ | refine Acc.alloc ?_ _ | refine Acc.setCell ?_ ?_ _) | (refine leB ?_; omega)))
        clear hb
        go_wp2_with fail
        cases ht : jpowF u1 u2 u3 v1 v2 v3 with
        | none =>
         have HN := Lib.hid ht
         clear ht
         refine (gave_none HN.out (implJPower_any u1 u2 u3 v1 v2 v3 hu1 hu2 hu3 hv1 hv2 hv3 _ (HL.out _ (by repeat' (first | (with_reducible first | assumption | exact Acc.refl _ | refine Acc.alloc ?_ _ | refine Acc.setCell ?_ ?_ _) | (refine leB ?_; omega)))))).mono ?_
         rintro e W5 ⟨rfl, hb⟩
         obtain ⟨Ba, Bc, Bo, Bw⟩ : Blk W5 (W0.heap.size) [.int .i64 x1, .int .i64 x2, .int .i64 x3, .int .i64 y1, .int .i64 y2, .int .i64 y3] ∧ Blk W5 (W0.heap.size + 1) [.int .i64 0, .int .i64 c2, .int .i64 c3] ∧ Blk W5 (W1.heap.size) [.int .i64 u1, .int .i64 u2, .int .i64 u3, .int .i64 v1, .int .i64 v2, .int .i64 v3] ∧ Blk W5 (W2.heap.size) [.int .i64 u1, .int .i64 u2, .int .i64 u3, .int .i64 v1, .int .i64 v2, .int .i64 v3] := by
           refine ⟨?_, ?_, ?_, ?_⟩ <;> refine Blk.keep hb ?_ <;> (repeat' (first | (with_reducible first | assumption | apply Blk.set | (refine Blk.new ?_; focus (first | rfl | (simp; done))) | refine Blk.alloc ?_ _ | refine Blk.other ?_ ?_ _) | exact eqL rfl | (refine neB ?_; omega)))
         have ca := Ba.cell
         have fa := Ba.free
         have la_W5 := Ba.lt
         have cc := Bc.cell
         have fc := Bc.free
         have lc_W5 := Bc.lt
         have co := Bo.cell
         have fo := Bo.free
         have lo_W5 := Bo.lt
         have cw := Bw.cell
         have fw := Bw.free
         have lw_W5 := Bw.lt
         have kaW5 : Acc w W5 := by
           refine Acc.call ?_ hb
           (repeat' (first | (with_reducible first | assumption | exact Acc.refl _ | refine Acc.alloc ?_ _ | refine Acc.setCell ?_ ?_ _) | (refine leB ?_; omega)))
         clear hb
         go_wp2_with fail
         obtain ⟨⟨m1, m2, m3⟩, hv⟩ : ∃ o, partsR (jpowF x1 x2 x3 y1 y2 y3) = o := ⟨_, rfl⟩
         obtain ⟨km, hk⟩ : ∃ k, okR (jpowF x1 x2 x3 y1 y2 y3) = k := ⟨_, rfl⟩
         obtain ⟨hm1, hm2, hm3⟩ := parts_i64 (fun _ _ _ h => jpow_ok h) hv
         have HV := Lib.hid hv
         have HK := Lib.hid hk
         clear hv hk
         refine (gave_any HV.out HK.out (implJPower_any x1 x2 x3 y1 y2 y3 hx1 hx2 hx3 hy1 hy2 hy3 _ (HL.out _ (by repeat' (first | (with_reducible first | assumption | exact Acc.refl _ | refine Acc.alloc ?_ _ | refine Acc.setCell ?_ ?_ _) | (refine leB ?_; omega)))))).mono ?_
         rintro e W6 ⟨rfl, hb⟩
         obtain ⟨Ba, Bc, Bo, Bw, Bn⟩ : Blk W6 (W0.heap.size) [.int .i64 x1, .int .i64 x2, .int .i64 x3, .int .i64 y1, .int .i64 y2, .int .i64 y3] ∧ Blk W6 (W0.heap.size + 1) [.int .i64 0, .int .i64 c2, .int .i64 c3] ∧ Blk W6 (W1.heap.size) [.int .i64 u1, .int .i64 u2, .int .i64 u3, .int .i64 v1, .int .i64 v2, .int .i64 v3] ∧ Blk W6 (W2.heap.size) [.int .i64 u1, .int .i64 u2, .int .i64 u3, .int .i64 v1, .int .i64 v2, .int .i64 v3] ∧ Blk W6 (W5.heap.size) [.int .i64 0, .int .i64 0, .int .i64 0] := by
           refine ⟨?_, ?_, ?_, ?_, ?_⟩ <;> refine Blk.keep hb ?_ <;> (repeat' (first | (with_reducible first | assumption | apply Blk.set | (refine Blk.new ?_; focus (first | rfl | (simp; done))) | refine Blk.alloc ?_ _ | refine Blk.other ?_ ?_ _) | exact eqL rfl | (refine neB ?_; omega)))
         have ca := Ba.cell
         have fa := Ba.free
         have la_W6 := Ba.lt
         have cc := Bc.cell
         have fc := Bc.free
         have lc_W6 := Bc.lt
         have co := Bo.cell
         have fo := Bo.free
         have lo_W6 := Bo.lt
         have cw := Bw.cell
         have fw := Bw.free
         have lw_W6 := Bw.lt
         have cn := Bn.cell
         have fn := Bn.free
         have ln_W6 := Bn.lt
         have kaW6 : Acc w W6 := by
           refine Acc.call ?_ hb
           (repeat' (first | (with_reducible first | assumption | exact Acc.refl _ | refine Acc.alloc ?_ _ | refine Acc.setCell ?_ ?_ _) | (refine leB ?_; omega)))
         clear hb
         go_wp2_with fail
         obtain ⟨⟨g1, g2, g3⟩, hv⟩ : ∃ o, partsR (powerF 0 c2 c3) = o := ⟨_, rfl⟩
         obtain ⟨kg, hk⟩ : ∃ k, okR (powerF 0 c2 c3) = k := ⟨_, rfl⟩
         obtain ⟨hg1, hg2, hg3⟩ := parts_i64 (fun _ _ _ h => power_ok h) hv
         have HV := Lib.hid hv
         have HK := Lib.hid hk
         clear hv hk
         refine (gave_any HV.out HK.out (implPower_any 0 c2 c3 i64_0 hc2 hc3 _ (HL.out _ (by repeat' (first | (with_reducible first | assumption | exact Acc.refl _ | refine Acc.alloc ?_ _ | refine Acc.setCell ?_ ?_ _) | (refine leB ?_; omega)))))).mono ?_
         rintro e W7 ⟨rfl, hb⟩
         obtain ⟨Ba, Bc, Bo, Bw, Bn, Bm⟩ : Blk W7 (W0.heap.size) [.int .i64 x1, .int .i64 x2, .int .i64 x3, .int .i64 y1, .int .i64 y2, .int .i64 y3] ∧ Blk W7 (W0.heap.size + 1) [.int .i64 0, .int .i64 c2, .int .i64 c3] ∧ Blk W7 (W1.heap.size) [.int .i64 u1, .int .i64 u2, .int .i64 u3, .int .i64 v1, .int .i64 v2, .int .i64 v3] ∧ Blk W7 (W2.heap.size) [.int .i64 u1, .int .i64 u2, .int .i64 u3, .int .i64 v1, .int .i64 v2, .int .i64 v3] ∧ Blk W7 (W5.heap.size) [.int .i64 0, .int .i64 0, .int .i64 0] ∧ Blk W7 (W6.heap.size) [.int .i64 m1, .int .i64 m2, .int .i64 m3] := by
           refine ⟨?_, ?_, ?_, ?_, ?_, ?_⟩ <;> refine Blk.keep hb ?_ <;> (repeat' (first | (with_reducible first | assumption | apply Blk.set | (refine Blk.new ?_; focus (first | rfl | (simp; done))) | refine Blk.alloc ?_ _ | refine Blk.other ?_ ?_ _) | exact eqL rfl | (refine neB ?_; omega)))
         have ca := Ba.cell
         have fa := Ba.free
         have la_W7 := Ba.lt
         have cc := Bc.cell
         have fc := Bc.free
         have lc_W7 := Bc.lt
         have co := Bo.cell
         have fo := Bo.free
         have lo_W7 := Bo.lt
         have cw := Bw.cell
         have fw := Bw.free
         have lw_W7 := Bw.lt
         have cn := Bn.cell
         have fn := Bn.free
         have ln_W7 := Bn.lt
         have cm := Bm.cell
         have fm := Bm.free
         have lm_W7 := Bm.lt
         have kaW7 : Acc w W7 := by
           refine Acc.call ?_ hb
           (repeat' (first | (with_reducible first | assumption | exact Acc.refl _ | refine Acc.alloc ?_ _ | refine Acc.setCell ?_ ?_ _) | (refine leB ?_; omega)))
         clear hb
         go_wp2_with fail
         obtain ⟨⟨t1, t2, t3⟩, hv⟩ : ∃ o, partsR (timesF m1 m2 m3 g1 g2 g3) = o := ⟨_, rfl⟩
         obtain ⟨kt, hk⟩ : ∃ k, okR (timesF m1 m2 m3 g1 g2 g3) = k := ⟨_, rfl⟩
         obtain ⟨ht1, ht2, ht3⟩ := parts_i64 (fun _ _ _ h => times_ok h) hv
         have HV := Lib.hid hv
         have HK := Lib.hid hk
         clear hv hk
         refine (gave_any HV.out HK.out (implTimes_any m1 m2 m3 g1 g2 g3 hm1 hm2 hm3 hg1 hg2 hg3 _ (HL.out _ (by repeat' (first | (with_reducible first | assumption | exact Acc.refl _ | refine Acc.alloc ?_ _ | refine Acc.setCell ?_ ?_ _) | (refine leB ?_; omega)))))).mono ?_
         rintro e W8 ⟨rfl, hb⟩
         obtain ⟨Ba, Bc, Bo, Bw, Bn, Bm, Bg⟩ : Blk W8 (W0.heap.size) [.int .i64 x1, .int .i64 x2, .int .i64 x3, .int .i64 y1, .int .i64 y2, .int .i64 y3] ∧ Blk W8 (W0.heap.size + 1) [.int .i64 0, .int .i64 c2, .int .i64 c3] ∧ Blk W8 (W1.heap.size) [.int .i64 u1, .int .i64 u2, .int .i64 u3, .int .i64 v1, .int .i64 v2, .int .i64 v3] ∧ Blk W8 (W2.heap.size) [.int .i64 u1, .int .i64 u2, .int .i64 u3, .int .i64 v1, .int .i64 v2, .int .i64 v3] ∧ Blk W8 (W5.heap.size) [.int .i64 0, .int .i64 0, .int .i64 0] ∧ Blk W8 (W6.heap.size) [.int .i64 m1, .int .i64 m2, .int .i64 m3] ∧ Blk W8 (W7.heap.size) [.int .i64 g1, .int .i64 g2, .int .i64 g3] := by
           refine ⟨?_, ?_, ?_, ?_, ?_, ?_, ?_⟩ <;> refine Blk.keep hb ?_ <;> (repeat' (first | (with_reducible first | assumption | apply Blk.set | (refine Blk.new ?_; focus (first | rfl | (simp; done))) | refine Blk.alloc ?_ _ | refine Blk.other ?_ ?_ _) | exact eqL rfl | (refine neB ?_; omega)))
         have ca := Ba.cell
         have fa := Ba.free
         have la_W8 := Ba.lt
         have cc := Bc.cell
         have fc := Bc.free
         have lc_W8 := Bc.lt
         have co := Bo.cell
         have fo := Bo.free
         have lo_W8 := Bo.lt
         have cw := Bw.cell
         have fw := Bw.free
         have lw_W8 := Bw.lt
         have cn := Bn.cell
         have fn := Bn.free
         have ln_W8 := Bn.lt
         have cm := Bm.cell
         have fm := Bm.free
         have lm_W8 := Bm.lt
         have cg := Bg.cell
         have fg := Bg.free
         have lg_W8 := Bg.lt
         have kaW8 : Acc w W8 := by
           refine Acc.call ?_ hb
           (repeat' (first | (with_reducible first | assumption | exact Acc.refl _ | refine Acc.alloc ?_ _ | refine Acc.setCell ?_ ?_ _) | (refine leB ?_; omega)))
         clear hb
         go_wp2_with fail
         all_goals
           go_ret
           refine ⟨by first | rfl | (simp [*]; done) | (simp [go_sem, *]; done), ?_⟩
           show Acc w _
           (repeat' (first | (with_reducible first | assumption | exact Acc.refl _ | refine Acc.alloc ?_ _ | refine Acc.setCell ?_ ?_ _) | (refine leB ?_; omega)))
        | some v =>
         obtain ⟨n1, n2, n3⟩ := v
         obtain ⟨hn1, hn2, hn3⟩ := okF_i64 (jpow_ok ht)
         have HN := Lib.hid ht
         clear ht
         refine (gave_some HN.out (implJPower_any u1 u2 u3 v1 v2 v3 hu1 hu2 hu3 hv1 hv2 hv3 _ (HL.out _ (by repeat' (first | (with_reducible first | assumption | exact Acc.refl _ | refine Acc.alloc ?_ _ | refine Acc.setCell ?_ ?_ _) | (refine leB ?_; omega)))))).mono ?_
         rintro e W5 ⟨rfl, hb⟩
         obtain ⟨Ba, Bc, Bo, Bw⟩ : Blk W5 (W0.heap.size) [.int .i64 x1, .int .i64 x2, .int .i64 x3, .int .i64 y1, .int .i64 y2, .int .i64 y3] ∧ Blk W5 (W0.heap.size + 1) [.int .i64 0, .int .i64 c2, .int .i64 c3] ∧ Blk W5 (W1.heap.size) [.int .i64 u1, .int .i64 u2, .int .i64 u3, .int .i64 v1, .int .i64 v2, .int .i64 v3] ∧ Blk W5 (W2.heap.size) [.int .i64 u1, .int .i64 u2, .int .i64 u3, .int .i64 v1, .int .i64 v2, .int .i64 v3] := by
           refine ⟨?_, ?_, ?_, ?_⟩ <;> refine Blk.keep hb ?_ <;> (repeat' (first | (with_reducible first | assumption | apply Blk.set | (refine Blk.new ?_; focus (first | rfl | (simp; done))) | refine Blk.alloc ?_ _ | refine Blk.other ?_ ?_ _) | exact eqL rfl | (refine neB ?_; omega)))
         have ca := Ba.cell
         have fa := Ba.free
         have la_W5 := Ba.lt
         have cc := Bc.cell
         have fc := Bc.free
         have lc_W5 := Bc.lt
         have co := Bo.cell
         have fo := Bo.free
         have lo_W5 := Bo.lt
         have cw := Bw.cell
         have fw := Bw.free
         have lw_W5 := Bw.lt
         have kaW5 : Acc w W5 := by
           refine Acc.call ?_ hb
           (repeat' (first | (with_reducible first | assumption | exact Acc.refl _ | refine Acc.alloc ?_ _ | refine Acc.setCell ?_ ?_ _) | (refine leB ?_; omega)))
         clear hb
         go_wp2_with fail
         cases ht : jpowF x1 x2 x3 y1 y2 y3 with
         | none =>
          have HM := Lib.hid ht
          clear ht
          refine (gave_none HM.out (implJPower_any x1 x2 x3 y1 y2 y3 hx1 hx2 hx3 hy1 hy2 hy3 _ (HL.out _ (by repeat' (first | (with_reducible first | assumption | exact Acc.refl _ | refine Acc.alloc ?_ _ | refine Acc.setCell ?_ ?_ _) | (refine leB ?_; omega)))))).mono ?_
          rintro e W6 ⟨rfl, hb⟩
          obtain ⟨Ba, Bc, Bo, Bw, Bn⟩ : Blk W6 (W0.heap.size) [.int .i64 x1, .int .i64 x2, .int .i64 x3, .int .i64 y1, .int .i64 y2, .int .i64 y3] ∧ Blk W6 (W0.heap.size + 1) [.int .i64 0, .int .i64 c2, .int .i64 c3] ∧ Blk W6 (W1.heap.size) [.int .i64 u1, .int .i64 u2, .int .i64 u3, .int .i64 v1, .int .i64 v2, .int .i64 v3] ∧ Blk W6 (W2.heap.size) [.int .i64 u1, .int .i64 u2, .int .i64 u3, .int .i64 v1, .int .i64 v2, .int .i64 v3] ∧ Blk W6 (W5.heap.size) [.int .i64 n1, .int .i64 n2, .int .i64 n3] := by
            refine ⟨?_, ?_, ?_, ?_, ?_⟩ <;> refine Blk.keep hb ?_ <;> (repeat' (first | (with_reducible first | assumption | apply Blk.set | (refine Blk.new ?_; focus (first | rfl | (simp; done))) | refine Blk.alloc ?_ _ | refine Blk.other ?_ ?_ _) | exact eqL rfl | (refine neB ?_; omega)))
          have ca := Ba.cell
          have fa := Ba.free
          have la_W6 := Ba.lt
          have cc := Bc.cell
          have fc := Bc.free
          have lc_W6 := Bc.lt
          have co := Bo.cell
          have fo := Bo.free
          have lo_W6 := Bo.lt
          have cw := Bw.cell
          have fw := Bw.free
          have lw_W6 := Bw.lt
          have cn := Bn.cell
          have fn := Bn.free
          have ln_W6 := Bn.lt
          have kaW6 : Acc w W6 := by
            refine Acc.call ?_ hb
            (repeat' (first | (with_reducible first | assumption | exact Acc.refl _ | refine Acc.alloc ?_ _ | refine Acc.setCell ?_ ?_ _) | (refine leB ?_; omega)))
          clear hb
          go_wp2_with fail
          obtain ⟨⟨g1, g2, g3⟩, hv⟩ : ∃ o, partsR (powerF 0 c2 c3) = o := ⟨_, rfl⟩
          obtain ⟨kg, hk⟩ : ∃ k, okR (powerF 0 c2 c3) = k := ⟨_, rfl⟩
          obtain ⟨hg1, hg2, hg3⟩ := parts_i64 (fun _ _ _ h => power_ok h) hv
          have HV := Lib.hid hv
          have HK := Lib.hid hk
          clear hv hk
          refine (gave_any HV.out HK.out (implPower_any 0 c2 c3 i64_0 hc2 hc3 _ (HL.out _ (by repeat' (first | (with_reducible first | assumption | exact Acc.refl _ | refine Acc.alloc ?_ _ | refine Acc.setCell ?_ ?_ _) | (refine leB ?_; omega)))))).mono ?_
          rintro e W7 ⟨rfl, hb⟩
          obtain ⟨Ba, Bc, Bo, Bw, Bn, Bm⟩ : Blk W7 (W0.heap.size) [.int .i64 x1, .int .i64 x2, .int .i64 x3, .int .i64 y1, .int .i64 y2, .int .i64 y3] ∧ Blk W7 (W0.heap.size + 1) [.int .i64 0, .int .i64 c2, .int .i64 c3] ∧ Blk W7 (W1.heap.size) [.int .i64 u1, .int .i64 u2, .int .i64 u3, .int .i64 v1, .int .i64 v2, .int .i64 v3] ∧ Blk W7 (W2.heap.size) [.int .i64 u1, .int .i64 u2, .int .i64 u3, .int .i64 v1, .int .i64 v2, .int .i64 v3] ∧ Blk W7 (W5.heap.size) [.int .i64 n1, .int .i64 n2, .int .i64 n3] ∧ Blk W7 (W6.heap.size) [.int .i64 0, .int .i64 0, .int .i64 0] := by
            refine ⟨?_, ?_, ?_, ?_, ?_, ?_⟩ <;> refine Blk.keep hb ?_ <;> (repeat' (first | (with_reducible first | assumption | apply Blk.set | (refine Blk.new ?_; focus (first | rfl | (simp; done))) | refine Blk.alloc ?_ _ | refine Blk.other ?_ ?_ _) | exact eqL rfl | (refine neB ?_; omega)))
          have ca := Ba.cell
          have fa := Ba.free
          have la_W7 := Ba.lt
          have cc := Bc.cell
          have fc := Bc.free
          have lc_W7 := Bc.lt
          have co := Bo.cell
          have fo := Bo.free
          have lo_W7 := Bo.lt
          have cw := Bw.cell
          have fw := Bw.free
          have lw_W7 := Bw.lt
          have cn := Bn.cell
          have fn := Bn.free
          have ln_W7 := Bn.lt
          have cm := Bm.cell
          have fm := Bm.free
          have lm_W7 := Bm.lt
          have kaW7 : Acc w W7 := by
            refine Acc.call ?_ hb
            (repeat' (first | (with_reducible first | assumption | exact Acc.refl _ | refine Acc.alloc ?_ _ | refine Acc.setCell ?_ ?_ _) | (refine leB ?_; omega)))
          clear hb
          go_wp2_with fail
          obtain ⟨⟨t1, t2, t3⟩, hv⟩ : ∃ o, partsR (timesF 0 0 0 g1 g2 g3) = o := ⟨_, rfl⟩
          obtain ⟨kt, hk⟩ : ∃ k, okR (timesF 0 0 0 g1 g2 g3) = k := ⟨_, rfl⟩
          obtain ⟨ht1, ht2, ht3⟩ := parts_i64 (fun _ _ _ h => times_ok h) hv
          have HV := Lib.hid hv
          have HK := Lib.hid hk
          clear hv hk
          refine (gave_any HV.out HK.out (implTimes_any 0 0 0 g1 g2 g3 i64_0 i64_0 i64_0 hg1 hg2 hg3 _ (HL.out _ (by repeat' (first | (with_reducible first | assumption | exact Acc.refl _ | refine Acc.alloc ?_ _ | refine Acc.setCell ?_ ?_ _) | (refine leB ?_; omega)))))).mono ?_
          rintro e W8 ⟨rfl, hb⟩
          obtain ⟨Ba, Bc, Bo, Bw, Bn, Bm, Bg⟩ : Blk W8 (W0.heap.size) [.int .i64 x1, .int .i64 x2, .int .i64 x3, .int .i64 y1, .int .i64 y2, .int .i64 y3] ∧ Blk W8 (W0.heap.size + 1) [.int .i64 0, .int .i64 c2, .int .i64 c3] ∧ Blk W8 (W1.heap.size) [.int .i64 u1, .int .i64 u2, .int .i64 u3, .int .i64 v1, .int .i64 v2, .int .i64 v3] ∧ Blk W8 (W2.heap.size) [.int .i64 u1, .int .i64 u2, .int .i64 u3, .int .i64 v1, .int .i64 v2, .int .i64 v3] ∧ Blk W8 (W5.heap.size) [.int .i64 n1, .int .i64 n2, .int .i64 n3] ∧ Blk W8 (W6.heap.size) [.int .i64 0, .int .i64 0, .int .i64 0] ∧ Blk W8 (W7.heap.size) [.int .i64 g1, .int .i64 g2, .int .i64 g3] := by
            refine ⟨?_, ?_, ?_, ?_, ?_, ?_, ?_⟩ <;> refine Blk.keep hb ?_ <;> (repeat' (first | (with_reducible first | assumption | apply Blk.set | (refine Blk.new ?_; focus (first | rfl | (simp; done))) | refine Blk.alloc ?_ _ | refine Blk.other ?_ ?_ _) | exact eqL rfl | (refine neB ?_; omega)))
          have ca := Ba.cell
          have fa := Ba.free
          have la_W8 := Ba.lt
          have cc := Bc.cell
          have fc := Bc.free
          have lc_W8 := Bc.lt
          have co := Bo.cell
          have fo := Bo.free
          have lo_W8 := Bo.lt
          have cw := Bw.cell
          have fw := Bw.free
          have lw_W8 := Bw.lt
          have cn := Bn.cell
          have fn := Bn.free
          have ln_W8 := Bn.lt
          have cm := Bm.cell
          have fm := Bm.free
          have lm_W8 := Bm.lt
          have cg := Bg.cell
          have fg := Bg.free
          have lg_W8 := Bg.lt
          have kaW8 : Acc w W8 := by
            refine Acc.call ?_ hb
            (repeat' (first | (with_reducible first | assumption | exact Acc.refl _ | refine Acc.alloc ?_ _ | refine Acc.setCell ?_ ?_ _) | (refine leB ?_; omega)))
          clear hb
          go_wp2_with fail
          all_goals
            go_ret
            refine ⟨by first | rfl | (simp [*]; done) | (simp [go_sem, *]; done), ?_⟩
            show Acc w _
            (repeat' (first | (with_reducible first | assumption | exact Acc.refl _ | refine Acc.alloc ?_ _ | refine Acc.setCell ?_ ?_ _) | (refine leB ?_; omega)))
         | some v =>
          obtain ⟨m1, m2, m3⟩ := v
          obtain ⟨hm1, hm2, hm3⟩ := okF_i64 (jpow_ok ht)
          have HM := Lib.hid ht
          clear ht
          refine (gave_some HM.out (implJPower_any x1 x2 x3 y1 y2 y3 hx1 hx2 hx3 hy1 hy2 hy3 _ (HL.out _ (by repeat' (first | (with_reducible first | assumption | exact Acc.refl _ | refine Acc.alloc ?_ _ | refine Acc.setCell ?_ ?_ _) | (refine leB ?_; omega)))))).mono ?_
          rintro e W6 ⟨rfl, hb⟩
          obtain ⟨Ba, Bc, Bo, Bw, Bn⟩ : Blk W6 (W0.heap.size) [.int .i64 x1, .int .i64 x2, .int .i64 x3, .int .i64 y1, .int .i64 y2, .int .i64 y3] ∧ Blk W6 (W0.heap.size + 1) [.int .i64 0, .int .i64 c2, .int .i64 c3] ∧ Blk W6 (W1.heap.size) [.int .i64 u1, .int .i64 u2, .int .i64 u3, .int .i64 v1, .int .i64 v2, .int .i64 v3] ∧ Blk W6 (W2.heap.size) [.int .i64 u1, .int .i64 u2, .int .i64 u3, .int .i64 v1, .int .i64 v2, .int .i64 v3] ∧ Blk W6 (W5.heap.size) [.int .i64 n1, .int .i64 n2, .int .i64 n3] := by
            refine ⟨?_, ?_, ?_, ?_, ?_⟩ <;> refine Blk.keep hb ?_ <;> (repeat' (first | (with_reducible first | assumption | apply Blk.set | (refine Blk.new ?_; focus (first | rfl | (simp; done))) | refine Blk.alloc ?_ _ | refine Blk.other ?_ ?_ _) | exact eqL rfl | (refine neB ?_; omega)))
          have ca := Ba.cell
          have fa := Ba.free
          have la_W6 := Ba.lt
          have cc := Bc.cell
          have fc := Bc.free
          have lc_W6 := Bc.lt
          have co := Bo.cell
          have fo := Bo.free
          have lo_W6 := Bo.lt
          have cw := Bw.cell
          have fw := Bw.free
          have lw_W6 := Bw.lt
          have cn := Bn.cell
          have fn := Bn.free
          have ln_W6 := Bn.lt
          have kaW6 : Acc w W6 := by
            refine Acc.call ?_ hb
            (repeat' (first | (with_reducible first | assumption | exact Acc.refl _ | refine Acc.alloc ?_ _ | refine Acc.setCell ?_ ?_ _) | (refine leB ?_; omega)))
          clear hb
          go_wp2_with fail
          cases ht : powerF 0 c2 c3 with
          | none =>
           have HG := Lib.hid ht
           clear ht
           refine (gave_none HG.out (implPower_any 0 c2 c3 i64_0 hc2 hc3 _ (HL.out _ (by repeat' (first | (with_reducible first | assumption | exact Acc.refl _ | refine Acc.alloc ?_ _ | refine Acc.setCell ?_ ?_ _) | (refine leB ?_; omega)))))).mono ?_
           rintro e W7 ⟨rfl, hb⟩
           obtain ⟨Ba, Bc, Bo, Bw, Bn, Bm⟩ : Blk W7 (W0.heap.size) [.int .i64 x1, .int .i64 x2, .int .i64 x3, .int .i64 y1, .int .i64 y2, .int .i64 y3] ∧ Blk W7 (W0.heap.size + 1) [.int .i64 0, .int .i64 c2, .int .i64 c3] ∧ Blk W7 (W1.heap.size) [.int .i64 u1, .int .i64 u2, .int .i64 u3, .int .i64 v1, .int .i64 v2, .int .i64 v3] ∧ Blk W7 (W2.heap.size) [.int .i64 u1, .int .i64 u2, .int .i64 u3, .int .i64 v1, .int .i64 v2, .int .i64 v3] ∧ Blk W7 (W5.heap.size) [.int .i64 n1, .int .i64 n2, .int .i64 n3] ∧ Blk W7 (W6.heap.size) [.int .i64 m1, .int .i64 m2, .int .i64 m3] := by
             refine ⟨?_, ?_, ?_, ?_, ?_, ?_⟩ <;> refine Blk.keep hb ?_ <;> (repeat' (first | (with_reducible first | assumption | apply Blk.set | (refine Blk.new ?_; focus (first | rfl | (simp; done))) | refine Blk.alloc ?_ _ | refine Blk.other ?_ ?_ _) | exact eqL rfl | (refine neB ?_; omega)))
           have ca := Ba.cell
           have fa := Ba.free
           have la_W7 := Ba.lt
           have cc := Bc.cell
           have fc := Bc.free
           have lc_W7 := Bc.lt
           have co := Bo.cell
           have fo := Bo.free
           have lo_W7 := Bo.lt
           have cw := Bw.cell
           have fw := Bw.free
           have lw_W7 := Bw.lt
           have cn := Bn.cell
           have fn := Bn.free
           have ln_W7 := Bn.lt
           have cm := Bm.cell
           have fm := Bm.free
           have lm_W7 := Bm.lt
           have kaW7 : Acc w W7 := by
             refine Acc.call ?_ hb
             (repeat' (first | (with_reducible first | assumption | exact Acc.refl _ | refine Acc.alloc ?_ _ | refine Acc.setCell ?_ ?_ _) | (refine leB ?_; omega)))
           clear hb
           go_wp2_with fail
           obtain ⟨⟨t1, t2, t3⟩, hv⟩ : ∃ o, partsR (timesF m1 m2 m3 0 0 0) = o := ⟨_, rfl⟩
           obtain ⟨kt, hk⟩ : ∃ k, okR (timesF m1 m2 m3 0 0 0) = k := ⟨_, rfl⟩
           obtain ⟨ht1, ht2, ht3⟩ := parts_i64 (fun _ _ _ h => times_ok h) hv
           have HV := Lib.hid hv
           have HK := Lib.hid hk
           clear hv hk
           refine (gave_any HV.out HK.out (implTimes_any m1 m2 m3 0 0 0 hm1 hm2 hm3 i64_0 i64_0 i64_0 _ (HL.out _ (by repeat' (first | (with_reducible first | assumption | exact Acc.refl _ | refine Acc.alloc ?_ _ | refine Acc.setCell ?_ ?_ _) | (refine leB ?_; omega)))))).mono ?_
           rintro e W8 ⟨rfl, hb⟩
           obtain ⟨Ba, Bc, Bo, Bw, Bn, Bm, Bg⟩ : Blk W8 (W0.heap.size) [.int .i64 x1, .int .i64 x2, .int .i64 x3, .int .i64 y1, .int .i64 y2, .int .i64 y3] ∧ Blk W8 (W0.heap.size + 1) [.int .i64 0, .int .i64 c2, .int .i64 c3] ∧ Blk W8 (W1.heap.size) [.int .i64 u1, .int .i64 u2, .int .i64 u3, .int .i64 v1, .int .i64 v2, .int .i64 v3] ∧ Blk W8 (W2.heap.size) [.int .i64 u1, .int .i64 u2, .int .i64 u3, .int .i64 v1, .int .i64 v2, .int .i64 v3] ∧ Blk W8 (W5.heap.size) [.int .i64 n1, .int .i64 n2, .int .i64 n3] ∧ Blk W8 (W6.heap.size) [.int .i64 m1, .int .i64 m2, .int .i64 m3] ∧ Blk W8 (W7.heap.size) [.int .i64 0, .int .i64 0, .int .i64 0] := by
             refine ⟨?_, ?_, ?_, ?_, ?_, ?_, ?_⟩ <;> refine Blk.keep hb ?_ <;> (repeat' (first | (with_reducible first | assumption | apply Blk.set | (refine Blk.new ?_; focus (first | rfl | (simp; done))) | refine Blk.alloc ?_ _ | refine Blk.other ?_ ?_ _) | exact eqL rfl | (refine neB ?_; omega)))
           have ca := Ba.cell
           have fa := Ba.free
           have la_W8 := Ba.lt
           have cc := Bc.cell
           have fc := Bc.free
           have lc_W8 := Bc.lt
           have co := Bo.cell
           have fo := Bo.free
           have lo_W8 := Bo.lt
           have cw := Bw.cell
           have fw := Bw.free
           have lw_W8 := Bw.lt
           have cn := Bn.cell
           have fn := Bn.free
           have ln_W8 := Bn.lt
           have cm := Bm.cell
           have fm := Bm.free
           have lm_W8 := Bm.lt
           have cg := Bg.cell
           have fg := Bg.free
           have lg_W8 := Bg.lt
           have kaW8 : Acc w W8 := by
             refine Acc.call ?_ hb
             (repeat' (first | (with_reducible first | assumption | exact Acc.refl _ | refine Acc.alloc ?_ _ | refine Acc.setCell ?_ ?_ _) | (refine leB ?_; omega)))
           clear hb
           go_wp2_with fail
           all_goals
             go_ret
             refine ⟨by first | rfl | (simp [*]; done) | (simp [go_sem, *]; done), ?_⟩
             show Acc w _
             (repeat' (first | (with_reducible first | assumption | exact Acc.refl _ | refine Acc.alloc ?_ _ | refine Acc.setCell ?_ ?_ _) | (refine leB ?_; omega)))
          | some v =>
           obtain ⟨g1, g2, g3⟩ := v
           obtain ⟨hg1, hg2, hg3⟩ := okF_i64 (power_ok ht)
           have HG := Lib.hid ht
           clear ht
           refine (gave_some HG.out (implPower_any 0 c2 c3 i64_0 hc2 hc3 _ (HL.out _ (by repeat' (first | (with_reducible first | assumption | exact Acc.refl _ | refine Acc.alloc ?_ _ | refine Acc.setCell ?_ ?_ _) | (refine leB ?_; omega)))))).mono ?_
           rintro e W7 ⟨rfl, hb⟩
           obtain ⟨Ba, Bc, Bo, Bw, Bn, Bm⟩ : Blk W7 (W0.heap.size) [.int .i64 x1, .int .i64 x2, .int .i64 x3, .int .i64 y1, .int .i64 y2, .int .i64 y3] ∧ Blk W7 (W0.heap.size + 1) [.int .i64 0, .int .i64 c2, .int .i64 c3] ∧ Blk W7 (W1.heap.size) [.int .i64 u1, .int .i64 u2, .int .i64 u3, .int .i64 v1, .int .i64 v2, .int .i64 v3] ∧ Blk W7 (W2.heap.size) [.int .i64 u1, .int .i64 u2, .int .i64 u3, .int .i64 v1, .int .i64 v2, .int .i64 v3] ∧ Blk W7 (W5.heap.size) [.int .i64 n1, .int .i64 n2, .int .i64 n3] ∧ Blk W7 (W6.heap.size) [.int .i64 m1, .int .i64 m2, .int .i64 m3] := by
             refine ⟨?_, ?_, ?_, ?_, ?_, ?_⟩ <;> refine Blk.keep hb ?_ <;> (repeat' (first | (with_reducible first | assumption | apply Blk.set | (refine Blk.new ?_; focus (first | rfl | (simp; done))) | refine Blk.alloc ?_ _ | refine Blk.other ?_ ?_ _) | exact eqL rfl | (refine neB ?_; omega)))
           have ca := Ba.cell
           have fa := Ba.free
           have la_W7 := Ba.lt
           have cc := Bc.cell
           have fc := Bc.free
           have lc_W7 := Bc.lt
           have co := Bo.cell
           have fo := Bo.free
           have lo_W7 := Bo.lt
           have cw := Bw.cell
           have fw := Bw.free
           have lw_W7 := Bw.lt
           have cn := Bn.cell
           have fn := Bn.free
           have ln_W7 := Bn.lt
           have cm := Bm.cell
           have fm := Bm.free
           have lm_W7 := Bm.lt
           have kaW7 : Acc w W7 := by
             refine Acc.call ?_ hb
             (repeat' (first | (with_reducible first | assumption | exact Acc.refl _ | refine Acc.alloc ?_ _ | refine Acc.setCell ?_ ?_ _) | (refine leB ?_; omega)))
           clear hb
           go_wp2_with fail
           cases ht : timesF m1 m2 m3 g1 g2 g3 with
           | none =>
            have HT := Lib.hid ht
            clear ht
            refine (gave_none HT.out (implTimes_any m1 m2 m3 g1 g2 g3 hm1 hm2 hm3 hg1 hg2 hg3 _ (HL.out _ (by repeat' (first | (with_reducible first | assumption | exact Acc.refl _ | refine Acc.alloc ?_ _ | refine Acc.setCell ?_ ?_ _) | (refine leB ?_; omega)))))).mono ?_
            rintro e W8 ⟨rfl, hb⟩
            obtain ⟨Ba, Bc, Bo, Bw, Bn, Bm, Bg⟩ : Blk W8 (W0.heap.size) [.int .i64 x1, .int .i64 x2, .int .i64 x3, .int .i64 y1, .int .i64 y2, .int .i64 y3] ∧ Blk W8 (W0.heap.size + 1) [.int .i64 0, .int .i64 c2, .int .i64 c3] ∧ Blk W8 (W1.heap.size) [.int .i64 u1, .int .i64 u2, .int .i64 u3, .int .i64 v1, .int .i64 v2, .int .i64 v3] ∧ Blk W8 (W2.heap.size) [.int .i64 u1, .int .i64 u2, .int .i64 u3, .int .i64 v1, .int .i64 v2, .int .i64 v3] ∧ Blk W8 (W5.heap.size) [.int .i64 n1, .int .i64 n2, .int .i64 n3] ∧ Blk W8 (W6.heap.size) [.int .i64 m1, .int .i64 m2, .int .i64 m3] ∧ Blk W8 (W7.heap.size) [.int .i64 g1, .int .i64 g2, .int .i64 g3] := by
              refine ⟨?_, ?_, ?_, ?_, ?_, ?_, ?_⟩ <;> refine Blk.keep hb ?_ <;> (repeat' (first | (with_reducible first | assumption | apply Blk.set | (refine Blk.new ?_; focus (first | rfl | (simp; done))) | refine Blk.alloc ?_ _ | refine Blk.other ?_ ?_ _) | exact eqL rfl | (refine neB ?_; omega)))
            have ca := Ba.cell
            have fa := Ba.free
            have la_W8 := Ba.lt
            have cc := Bc.cell
            have fc := Bc.free
            have lc_W8 := Bc.lt
            have co := Bo.cell
            have fo := Bo.free
            have lo_W8 := Bo.lt
            have cw := Bw.cell
            have fw := Bw.free
            have lw_W8 := Bw.lt
            have cn := Bn.cell
            have fn := Bn.free
            have ln_W8 := Bn.lt
            have cm := Bm.cell
            have fm := Bm.free
            have lm_W8 := Bm.lt
            have cg := Bg.cell
            have fg := Bg.free
            have lg_W8 := Bg.lt
            have kaW8 : Acc w W8 := by
              refine Acc.call ?_ hb
              (repeat' (first | (with_reducible first | assumption | exact Acc.refl _ | refine Acc.alloc ?_ _ | refine Acc.setCell ?_ ?_ _) | (refine leB ?_; omega)))
            clear hb
            go_wp2_with fail
            all_goals
              go_ret
              refine ⟨by first | rfl | (simp [*]; done) | (simp [go_sem, *]; done), ?_⟩
              show Acc w _
              (repeat' (first | (with_reducible first | assumption | exact Acc.refl _ | refine Acc.alloc ?_ _ | refine Acc.setCell ?_ ?_ _) | (refine leB ?_; omega)))
           | some v =>
            obtain ⟨t1, t2, t3⟩ := v
            obtain ⟨ht1, ht2, ht3⟩ := okF_i64 (times_ok ht)
            have HT := Lib.hid ht
            clear ht
            refine (gave_some HT.out (implTimes_any m1 m2 m3 g1 g2 g3 hm1 hm2 hm3 hg1 hg2 hg3 _ (HL.out _ (by repeat' (first | (with_reducible first | assumption | exact Acc.refl _ | refine Acc.alloc ?_ _ | refine Acc.setCell ?_ ?_ _) | (refine leB ?_; omega)))))).mono ?_
            rintro e W8 ⟨rfl, hb⟩
            obtain ⟨Ba, Bc, Bo, Bw, Bn, Bm, Bg⟩ : Blk W8 (W0.heap.size) [.int .i64 x1, .int .i64 x2, .int .i64 x3, .int .i64 y1, .int .i64 y2, .int .i64 y3] ∧ Blk W8 (W0.heap.size + 1) [.int .i64 0, .int .i64 c2, .int .i64 c3] ∧ Blk W8 (W1.heap.size) [.int .i64 u1, .int .i64 u2, .int .i64 u3, .int .i64 v1, .int .i64 v2, .int .i64 v3] ∧ Blk W8 (W2.heap.size) [.int .i64 u1, .int .i64 u2, .int .i64 u3, .int .i64 v1, .int .i64 v2, .int .i64 v3] ∧ Blk W8 (W5.heap.size) [.int .i64 n1, .int .i64 n2, .int .i64 n3] ∧ Blk W8 (W6.heap.size) [.int .i64 m1, .int .i64 m2, .int .i64 m3] ∧ Blk W8 (W7.heap.size) [.int .i64 g1, .int .i64 g2, .int .i64 g3] := by
              refine ⟨?_, ?_, ?_, ?_, ?_, ?_, ?_⟩ <;> refine Blk.keep hb ?_ <;> (repeat' (first | (with_reducible first | assumption | apply Blk.set | (refine Blk.new ?_; focus (first | rfl | (simp; done))) | refine Blk.alloc ?_ _ | refine Blk.other ?_ ?_ _) | exact eqL rfl | (refine neB ?_; omega)))
            have ca := Ba.cell
            have fa := Ba.free
            have la_W8 := Ba.lt
            have cc := Bc.cell
            have fc := Bc.free
            have lc_W8 := Bc.lt
            have co := Bo.cell
            have fo := Bo.free
            have lo_W8 := Bo.lt
            have cw := Bw.cell
            have fw := Bw.free
            have lw_W8 := Bw.lt
            have cn := Bn.cell
            have fn := Bn.free
            have ln_W8 := Bn.lt
            have cm := Bm.cell
            have fm := Bm.free
            have lm_W8 := Bm.lt
            have cg := Bg.cell
            have fg := Bg.free
            have lg_W8 := Bg.lt
            have kaW8 : Acc w W8 := by
              refine Acc.call ?_ hb
              (repeat' (first | (with_reducible first | assumption | exact Acc.refl _ | refine Acc.alloc ?_ _ | refine Acc.setCell ?_ ?_ _) | (refine leB ?_; omega)))
            clear hb
            go_wp2_with fail
            all_goals obtain ⟨⟩ := times_power HO.out HN.out HM.out HG.out HT.out
            all_goals try exact absurd rfl (by assumption)
            all_goals
              go_ret
              refine ⟨by first | rfl | (simp [*]; done) | (simp [go_sem, *]; done), ?_⟩
              show Acc w _
              (repeat' (first | (with_reducible first | assumption | exact Acc.refl _ | refine Acc.alloc ?_ _ | refine Acc.setCell ?_ ?_ _) | (refine leB ?_; omega)))
       | some v =>
        obtain ⟨p1, p2, p3⟩ := v
        have HP := Lib.hid ht
        clear ht
        refine (gave_some HP.out (implTimes_any x1 x2 x3 v1 v2 v3 hx1 hx2 hx3 hv1 hv2 hv3 _ (HL.out _ (by repeat' (first | (with_reducible first | assumption | exact Acc.refl _ | refine Acc.alloc ?_ _ | refine Acc.setCell ?_ ?_ _) | (refine leB ?_; omega)))))).mono ?_
        rintro e W3 ⟨rfl, hb⟩
        obtain ⟨Ba, Bc, Bo, Bw⟩ : Blk W3 (W0.heap.size) [.int .i64 x1, .int .i64 x2, .int .i64 x3, .int .i64 y1, .int .i64 y2, .int .i64 y3] ∧ Blk W3 (W0.heap.size + 1) [.int .i64 0, .int .i64 c2, .int .i64 c3] ∧ Blk W3 (W1.heap.size) [.int .i64 u1, .int .i64 u2, .int .i64 u3, .int .i64 v1, .int .i64 v2, .int .i64 v3] ∧ Blk W3 (W2.heap.size) [.int .i64 u1, .int .i64 u2, .int .i64 u3, .int .i64 v1, .int .i64 v2, .int .i64 v3] := by
          refine ⟨?_, ?_, ?_, ?_⟩ <;> refine Blk.keep hb ?_ <;> (repeat' (first | (with_reducible first | assumption | apply Blk.set | (refine Blk.new ?_; focus (first | rfl | (simp; done))) | refine Blk.alloc ?_ _ | refine Blk.other ?_ ?_ _) | exact eqL rfl | (refine neB ?_; omega)))
        have ca := Ba.cell
        have fa := Ba.free
        have la_W3 := Ba.lt
        have cc := Bc.cell
        have fc := Bc.free
        have lc_W3 := Bc.lt
        have co := Bo.cell
        have fo := Bo.free
        have lo_W3 := Bo.lt
        have cw := Bw.cell
        have fw := Bw.free
        have lw_W3 := Bw.lt
        have kaW3 : Acc w W3 := by
          refine Acc.call ?_ hb
          (repeat' (first | (with_reducible first | assumption | exact Acc.refl _ | refine Acc.alloc ?_ _ | refine Acc.setCell ?_ ?_ _) | (refine leB ?_; omega)))
        clear hb
        go_wp2_with fail
        cases ht : timesF y1 y2 y3 u1 u2 u3 with
        | none =>
         have HQ := Lib.hid ht
         clear ht
         refine (gave_none HQ.out (implTimes_any y1 y2 y3 u1 u2 u3 hy1 hy2 hy3 hu1 hu2 hu3 _ (HL.out _ (by repeat' (first | (with_reducible first | assumption | exact Acc.refl _ | refine Acc.alloc ?_ _ | refine Acc.setCell ?_ ?_ _) | (refine leB ?_; omega)))))).mono ?_
         rintro e W4 ⟨rfl, hb⟩
         obtain ⟨Ba, Bc, Bo, Bw⟩ : Blk W4 (W0.heap.size) [.int .i64 x1, .int .i64 x2, .int .i64 x3, .int .i64 y1, .int .i64 y2, .int .i64 y3] ∧ Blk W4 (W0.heap.size + 1) [.int .i64 0, .int .i64 c2, .int .i64 c3] ∧ Blk W4 (W1.heap.size) [.int .i64 u1, .int .i64 u2, .int .i64 u3, .int .i64 v1, .int .i64 v2, .int .i64 v3] ∧ Blk W4 (W2.heap.size) [.int .i64 u1, .int .i64 u2, .int .i64 u3, .int .i64 v1, .int .i64 v2, .int .i64 v3] := by
           refine ⟨?_, ?_, ?_, ?_⟩ <;> refine Blk.keep hb ?_ <;> (repeat' (first | (with_reducible first | assumption | apply Blk.set | (refine Blk.new ?_; focus (first | rfl | (simp; done))) | refine Blk.alloc ?_ _ | refine Blk.other ?_ ?_ _) | exact eqL rfl | (refine neB ?_; omega)))
         have ca := Ba.cell
         have fa := Ba.free
         have la_W4 := Ba.lt
         have cc := Bc.cell
         have fc := Bc.free
         have lc_W4 := Bc.lt
         have co := Bo.cell
         have fo := Bo.free
         have lo_W4 := Bo.lt
         have cw := Bw.cell
         have fw := Bw.free
         have lw_W4 := Bw.lt
         have kaW4 : Acc w W4 := by
           refine Acc.call ?_ hb
           (repeat' (first | (with_reducible first | assumption | exact Acc.refl _ | refine Acc.alloc ?_ _ | refine Acc.setCell ?_ ?_ _) | (refine leB ?_; omega)))
         clear hb
         go_wp2_with fail
         cases ht : jpowF u1 u2 u3 v1 v2 v3 with
         | none =>
          have HN := Lib.hid ht
          clear ht
          refine (gave_none HN.out (implJPower_any u1 u2 u3 v1 v2 v3 hu1 hu2 hu3 hv1 hv2 hv3 _ (HL.out _ (by repeat' (first | (with_reducible first | assumption | exact Acc.refl _ | refine Acc.alloc ?_ _ | refine Acc.setCell ?_ ?_ _) | (refine leB ?_; omega)))))).mono ?_
          rintro e W5 ⟨rfl, hb⟩
          obtain ⟨Ba, Bc, Bo, Bw⟩ : Blk W5 (W0.heap.size) [.int .i64 x1, .int .i64 x2, .int .i64 x3, .int .i64 y1, .int .i64 y2, .int .i64 y3] ∧ Blk W5 (W0.heap.size + 1) [.int .i64 0, .int .i64 c2, .int .i64 c3] ∧ Blk W5 (W1.heap.size) [.int .i64 u1, .int .i64 u2, .int .i64 u3, .int .i64 v1, .int .i64 v2, .int .i64 v3] ∧ Blk W5 (W2.heap.size) [.int .i64 u1, .int .i64 u2, .int .i64 u3, .int .i64 v1, .int .i64 v2, .int .i64 v3] := by
            refine ⟨?_, ?_, ?_, ?_⟩ <;> refine Blk.keep hb ?_ <;> (repeat' (first | (with_reducible first | assumption | apply Blk.set | (refine Blk.new ?_; focus (first | rfl | (simp; done))) | refine Blk.alloc ?_ _ | refine Blk.other ?_ ?_ _) | exact eqL rfl | (refine neB ?_; omega)))
          have ca := Ba.cell
          have fa := Ba.free
          have la_W5 := Ba.lt
          have cc := Bc.cell
          have fc := Bc.free
          have lc_W5 := Bc.lt
          have co := Bo.cell
          have fo := Bo.free
          have lo_W5 := Bo.lt
          have cw := Bw.cell
          have fw := Bw.free
          have lw_W5 := Bw.lt
          have kaW5 : Acc w W5 := by
            refine Acc.call ?_ hb
            (repeat' (first | (with_reducible first | assumption | exact Acc.refl _ | refine Acc.alloc ?_ _ | refine Acc.setCell ?_ ?_ _) | (refine leB ?_; omega)))
          clear hb
          go_wp2_with fail
          obtain ⟨⟨m1, m2, m3⟩, hv⟩ : ∃ o, partsR (jpowF x1 x2 x3 y1 y2 y3) = o := ⟨_, rfl⟩
          obtain ⟨km, hk⟩ : ∃ k, okR (jpowF x1 x2 x3 y1 y2 y3) = k := ⟨_, rfl⟩
          obtain ⟨hm1, hm2, hm3⟩ := parts_i64 (fun _ _ _ h => jpow_ok h) hv
          have HV := Lib.hid hv
          have HK := Lib.hid hk
          clear hv hk
          refine (gave_any HV.out HK.out (implJPower_any x1 x2 x3 y1 y2 y3 hx1 hx2 hx3 hy1 hy2 hy3 _ (HL.out _ (by repeat' (first | (with_reducible first | assumption | exact Acc.refl _ | refine Acc.alloc ?_ _ | refine Acc.setCell ?_ ?_ _) | (refine leB ?_; omega)))))).mono ?_
          rintro e W6 ⟨rfl, hb⟩
          obtain ⟨Ba, Bc, Bo, Bw, Bn⟩ : Blk W6 (W0.heap.size) [.int .i64 x1, .int .i64 x2, .int .i64 x3, .int .i64 y1, .int .i64 y2, .int .i64 y3] ∧ Blk W6 (W0.heap.size + 1) [.int .i64 0, .int .i64 c2, .int .i64 c3] ∧ Blk W6 (W1.heap.size) [.int .i64 u1, .int .i64 u2, .int .i64 u3, .int .i64 v1, .int .i64 v2, .int .i64 v3] ∧ Blk W6 (W2.heap.size) [.int .i64 u1, .int .i64 u2, .int .i64 u3, .int .i64 v1, .int .i64 v2, .int .i64 v3] ∧ Blk W6 (W5.heap.size) [.int .i64 0, .int .i64 0, .int .i64 0] := by
            refine ⟨?_, ?_, ?_, ?_, ?_⟩ <;> refine Blk.keep hb ?_ <;> (repeat' (first | (with_reducible first | assumption | apply Blk.set | (refine Blk.new ?_; focus (first | rfl | (simp; done))) | refine Blk.alloc ?_ _ | refine Blk.other ?_ ?_ _) | exact eqL rfl | (refine neB ?_; omega)))
          have ca := Ba.cell
          have fa := Ba.free
          have la_W6 := Ba.lt
          have cc := Bc.cell
          have fc := Bc.free
          have lc_W6 := Bc.lt
          have co := Bo.cell
          have fo := Bo.free
          have lo_W6 := Bo.lt
          have cw := Bw.cell
          have fw := Bw.free
          have lw_W6 := Bw.lt
          have cn := Bn.cell
          have fn := Bn.free
          have ln_W6 := Bn.lt
          have kaW6 : Acc w W6 := by
            refine Acc.call ?_ hb
            (repeat' (first | (with_reducible first | assumption | exact Acc.refl _ | refine Acc.alloc ?_ _ | refine Acc.setCell ?_ ?_ _) | (refine leB ?_; omega)))
          clear hb
          go_wp2_with fail
          obtain ⟨⟨g1, g2, g3⟩, hv⟩ : ∃ o, partsR (powerF 0 c2 c3) = o := ⟨_, rfl⟩
          obtain ⟨kg, hk⟩ : ∃ k, okR (powerF 0 c2 c3) = k := ⟨_, rfl⟩
          obtain ⟨hg1, hg2, hg3⟩ := parts_i64 (fun _ _ _ h => power_ok h) hv
          have HV := Lib.hid hv
          have HK := Lib.hid hk
          clear hv hk
          refine (gave_any HV.out HK.out (implPower_any 0 c2 c3 i64_0 hc2 hc3 _ (HL.out _ (by repeat' (first | (with_reducible first | assumption | exact Acc.refl _ | refine Acc.alloc ?_ _ | refine Acc.setCell ?_ ?_ _) | (refine leB ?_; omega)))))).mono ?_
          rintro e W7 ⟨rfl, hb⟩
          obtain ⟨Ba, Bc, Bo, Bw, Bn, Bm⟩ : Blk W7 (W0.heap.size) [.int .i64 x1, .int .i64 x2, .int .i64 x3, .int .i64 y1, .int .i64 y2, .int .i64 y3] ∧ Blk W7 (W0.heap.size + 1) [.int .i64 0, .int .i64 c2, .int .i64 c3] ∧ Blk W7 (W1.heap.size) [.int .i64 u1, .int .i64 u2, .int .i64 u3, .int .i64 v1, .int .i64 v2, .int .i64 v3] ∧ Blk W7 (W2.heap.size) [.int .i64 u1, .int .i64 u2, .int .i64 u3, .int .i64 v1, .int .i64 v2, .int .i64 v3] ∧ Blk W7 (W5.heap.size) [.int .i64 0, .int .i64 0, .int .i64 0] ∧ Blk W7 (W6.heap.size) [.int .i64 m1, .int .i64 m2, .int .i64 m3] := by
            refine ⟨?_, ?_, ?_, ?_, ?_, ?_⟩ <;> refine Blk.keep hb ?_ <;> (repeat' (first | (with_reducible first | assumption | apply Blk.set | (refine Blk.new ?_; focus (first | rfl | (simp; done))) | refine Blk.alloc ?_ _ | refine Blk.other ?_ ?_ _) | exact eqL rfl | (refine neB ?_; omega)))
          have ca := Ba.cell
          have fa := Ba.free
          have la_W7 := Ba.lt
          have cc := Bc.cell
          have fc := Bc.free
          have lc_W7 := Bc.lt
          have co := Bo.cell
          have fo := Bo.free
          have lo_W7 := Bo.lt
          have cw := Bw.cell
          have fw := Bw.free
          have lw_W7 := Bw.lt
          have cn := Bn.cell
          have fn := Bn.free
          have ln_W7 := Bn.lt
          have cm := Bm.cell
          have fm := Bm.free
          have lm_W7 := Bm.lt
          have kaW7 : Acc w W7 := by
            refine Acc.call ?_ hb
            (repeat' (first | (with_reducible first | assumption | exact Acc.refl _ | refine Acc.alloc ?_ _ | refine Acc.setCell ?_ ?_ _) | (refine leB ?_; omega)))
          clear hb
          go_wp2_with fail
          obtain ⟨⟨t1, t2, t3⟩, hv⟩ : ∃ o, partsR (timesF m1 m2 m3 g1 g2 g3) = o := ⟨_, rfl⟩
          obtain ⟨kt, hk⟩ : ∃ k, okR (timesF m1 m2 m3 g1 g2 g3) = k := ⟨_, rfl⟩
          obtain ⟨ht1, ht2, ht3⟩ := parts_i64 (fun _ _ _ h => times_ok h) hv
          have HV := Lib.hid hv
          have HK := Lib.hid hk
          clear hv hk
          refine (gave_any HV.out HK.out (implTimes_any m1 m2 m3 g1 g2 g3 hm1 hm2 hm3 hg1 hg2 hg3 _ (HL.out _ (by repeat' (first | (with_reducible first | assumption | exact Acc.refl _ | refine Acc.alloc ?_ _ | refine Acc.setCell ?_ ?_ _) | (refine leB ?_; omega)))))).mono ?_
          rintro e W8 ⟨rfl, hb⟩
          obtain ⟨Ba, Bc, Bo, Bw, Bn, Bm, Bg⟩ : Blk W8 (W0.heap.size) [.int .i64 x1, .int .i64 x2, .int .i64 x3, .int .i64 y1, .int .i64 y2, .int .i64 y3] ∧ Blk W8 (W0.heap.size + 1) [.int .i64 0, .int .i64 c2, .int .i64 c3] ∧ Blk W8 (W1.heap.size) [.int .i64 u1, .int .i64 u2, .int .i64 u3, .int .i64 v1, .int .i64 v2, .int .i64 v3] ∧ Blk W8 (W2.heap.size) [.int .i64 u1, .int .i64 u2, .int .i64 u3, .int .i64 v1, .int .i64 v2, .int .i64 v3] ∧ Blk W8 (W5.heap.size) [.int .i64 0, .int .i64 0, .int .i64 0] ∧ Blk W8 (W6.heap.size) [.int .i64 m1, .int .i64 m2, .int .i64 m3] ∧ Blk W8 (W7.heap.size) [.int .i64 g1, .int .i64 g2, .int .i64 g3] := by
            refine ⟨?_, ?_, ?_, ?_, ?_, ?_, ?_⟩ <;> refine Blk.keep hb ?_ <;> (repeat' (first | (with_reducible first | assumption | apply Blk.set | (refine Blk.new ?_; focus (first | rfl | (simp; done))) | refine Blk.alloc ?_ _ | refine Blk.other ?_ ?_ _) | exact eqL rfl | (refine neB ?_; omega)))
          have ca := Ba.cell
          have fa := Ba.free
          have la_W8 := Ba.lt
          have cc := Bc.cell
          have fc := Bc.free
          have lc_W8 := Bc.lt
          have co := Bo.cell
          have fo := Bo.free
          have lo_W8 := Bo.lt
          have cw := Bw.cell
          have fw := Bw.free
          have lw_W8 := Bw.lt
          have cn := Bn.cell
          have fn := Bn.free
          have ln_W8 := Bn.lt
          have cm := Bm.cell
          have fm := Bm.free
          have lm_W8 := Bm.lt
          have cg := Bg.cell
          have fg := Bg.free
          have lg_W8 := Bg.lt
          have kaW8 : Acc w W8 := by
            refine Acc.call ?_ hb
            (repeat' (first | (with_reducible first | assumption | exact Acc.refl _ | refine Acc.alloc ?_ _ | refine Acc.setCell ?_ ?_ _) | (refine leB ?_; omega)))
          clear hb
          go_wp2_with fail
          all_goals
            go_ret
            refine ⟨by first | rfl | (simp [*]; done) | (simp [go_sem, *]; done), ?_⟩
            show Acc w _
            (repeat' (first | (with_reducible first | assumption | exact Acc.refl _ | refine Acc.alloc ?_ _ | refine Acc.setCell ?_ ?_ _) | (refine leB ?_; omega)))
         | some v =>
          obtain ⟨n1, n2, n3⟩ := v
          obtain ⟨hn1, hn2, hn3⟩ := okF_i64 (jpow_ok ht)
          have HN := Lib.hid ht
          clear ht
          refine (gave_some HN.out (implJPower_any u1 u2 u3 v1 v2 v3 hu1 hu2 hu3 hv1 hv2 hv3 _ (HL.out _ (by repeat' (first | (with_reducible first | assumption | exact Acc.refl _ | refine Acc.alloc ?_ _ | refine Acc.setCell ?_ ?_ _) | (refine leB ?_; omega)))))).mono ?_
          rintro e W5 ⟨rfl, hb⟩
          obtain ⟨Ba, Bc, Bo, Bw⟩ : Blk W5 (W0.heap.size) [.int .i64 x1, .int .i64 x2, .int .i64 x3, .int .i64 y1, .int .i64 y2, .int .i64 y3] ∧ Blk W5 (W0.heap.size + 1) [.int .i64 0, .int .i64 c2, .int .i64 c3] ∧ Blk W5 (W1.heap.size) [.int .i64 u1, .int .i64 u2, .int .i64 u3, .int .i64 v1, .int .i64 v2, .int .i64 v3] ∧ Blk W5 (W2.heap.size) [.int .i64 u1, .int .i64 u2, .int .i64 u3, .int .i64 v1, .int .i64 v2, .int .i64 v3] := by
            refine ⟨?_, ?_, ?_, ?_⟩ <;> refine Blk.keep hb ?_ <;> (repeat' (first | (with_reducible first | assumption | apply Blk.set | (refine Blk.new ?_; focus (first | rfl | (simp; done))) | refine Blk.alloc ?_ _ | refine Blk.other ?_ ?_ _) | exact eqL rfl | (refine neB ?_; omega)))
          have ca := Ba.cell
          have fa := Ba.free
          have la_W5 := Ba.lt
          have cc := Bc.cell
          have fc := Bc.free
          have lc_W5 := Bc.lt
          have co := Bo.cell
          have fo := Bo.free
          have lo_W5 := Bo.lt
          have cw := Bw.cell
          have fw := Bw.free
          have lw_W5 := Bw.lt
          have kaW5 : Acc w W5 := by
            refine Acc.call ?_ hb
            (repeat' (first | (with_reducible first | assumption | exact Acc.refl _ | refine Acc.alloc ?_ _ | refine Acc.setCell ?_ ?_ _) | (refine leB ?_; omega)))
          clear hb
          go_wp2_with fail
          cases ht : jpowF x1 x2 x3 y1 y2 y3 with
          | none =>
           have HM := Lib.hid ht
           clear ht
           refine (gave_none HM.out (implJPower_any x1 x2 x3 y1 y2 y3 hx1 hx2 hx3 hy1 hy2 hy3 _ (HL.out _ (by repeat' (first | (with_reducible first | assumption | exact Acc.refl _ | refine Acc.alloc ?_ _ | refine Acc.setCell ?_ ?_ _) | (refine leB ?_; omega)))))).mono ?_
           rintro e W6 ⟨rfl, hb⟩
           obtain ⟨Ba, Bc, Bo, Bw, Bn⟩ : Blk W6 (W0.heap.size) [.int .i64 x1, .int .i64 x2, .int .i64 x3, .int .i64 y1, .int .i64 y2, .int .i64 y3] ∧ Blk W6 (W0.heap.size + 1) [.int .i64 0, .int .i64 c2, .int .i64 c3] ∧ Blk W6 (W1.heap.size) [.int .i64 u1, .int .i64 u2, .int .i64 u3, .int .i64 v1, .int .i64 v2, .int .i64 v3] ∧ Blk W6 (W2.heap.size) [.int .i64 u1, .int .i64 u2, .int .i64 u3, .int .i64 v1, .int .i64 v2, .int .i64 v3] ∧ Blk W6 (W5.heap.size) [.int .i64 n1, .int .i64 n2, .int .i64 n3] := by
             refine ⟨?_, ?_, ?_, ?_, ?_⟩ <;> refine Blk.keep hb ?_ <;> (repeat' (first | (with_reducible first | assumption | apply Blk.set | (refine Blk.new ?_; focus (first | rfl | (simp; done))) | refine Blk.alloc ?_ _ | refine Blk.other ?_ ?_ _) | exact eqL rfl | (refine neB ?_; omega)))
           have ca := Ba.cell
           have fa := Ba.free
           have la_W6 := Ba.lt
           have cc := Bc.cell
           have fc := Bc.free
           have lc_W6 := Bc.lt
           have co := Bo.cell
           have fo := Bo.free
           have lo_W6 := Bo.lt
           have cw := Bw.cell
           have fw := Bw.free
           have lw_W6 := Bw.lt
           have cn := Bn.cell
           have fn := Bn.free
           have ln_W6 := Bn.lt
           have kaW6 : Acc w W6 := by
             refine Acc.call ?_ hb
             (repeat' (first | (with_reducible first | assumption | exact Acc.refl _ | refine Acc.alloc ?_ _ | refine Acc.setCell ?_ ?_ _) | (refine leB ?_; omega)))
           clear hb
           go_wp2_with fail
           obtain ⟨⟨g1, g2, g3⟩, hv⟩ : ∃ o, partsR (powerF 0 c2 c3) = o := ⟨_, rfl⟩
           obtain ⟨kg, hk⟩ : ∃ k, okR (powerF 0 c2 c3) = k := ⟨_, rfl⟩
           obtain ⟨hg1, hg2, hg3⟩ := parts_i64 (fun _ _ _ h => power_ok h) hv
           have HV := Lib.hid hv
           have HK := Lib.hid hk
           clear hv hk
           refine (gave_any HV.out HK.out (implPower_any 0 c2 c3 i64_0 hc2 hc3 _ (HL.out _ (by repeat' (first | (with_reducible first | assumption | exact Acc.refl _ | refine Acc.alloc ?_ _ | refine Acc.setCell ?_ ?_ _) | (refine leB ?_; omega)))))).mono ?_
           rintro e W7 ⟨rfl, hb⟩
           obtain ⟨Ba, Bc, Bo, Bw, Bn, Bm⟩ : Blk W7 (W0.heap.size) [.int .i64 x1, .int .i64 x2, .int .i64 x3, .int .i64 y1, .int .i64 y2, .int .i64 y3] ∧ Blk W7 (W0.heap.size + 1) [.int .i64 0, .int .i64 c2, .int .i64 c3] ∧ Blk W7 (W1.heap.size) [.int .i64 u1, .int .i64 u2, .int .i64 u3, .int .i64 v1, .int .i64 v2, .int .i64 v3] ∧ Blk W7 (W2.heap.size) [.int .i64 u1, .int .i64 u2, .int .i64 u3, .int .i64 v1, .int .i64 v2, .int .i64 v3] ∧ Blk W7 (W5.heap.size) [.int .i64 n1, .int .i64 n2, .int .i64 n3] ∧ Blk W7 (W6.heap.size) [.int .i64 0, .int .i64 0, .int .i64 0] := by
             refine ⟨?_, ?_, ?_, ?_, ?_, ?_⟩ <;> refine Blk.keep hb ?_ <;> (repeat' (first | (with_reducible first | assumption | apply Blk.set | (refine Blk.new ?_; focus (first | rfl | (simp; done))) | refine Blk.alloc ?_ _ | refine Blk.other ?_ ?_ _) | exact eqL rfl | (refine neB ?_; omega)))
           have ca := Ba.cell
           have fa := Ba.free
           have la_W7 := Ba.lt
           have cc := Bc.cell
           have fc := Bc.free
           have lc_W7 := Bc.lt
           have co := Bo.cell
           have fo := Bo.free
           have lo_W7 := Bo.lt
           have cw := Bw.cell
           have fw := Bw.free
           have lw_W7 := Bw.lt
           have cn := Bn.cell
           have fn := Bn.free
           have ln_W7 := Bn.lt
           have cm := Bm.cell
           have fm := Bm.free
           have lm_W7 := Bm.lt
           have kaW7 : Acc w W7 := by
             refine Acc.call ?_ hb
             (repeat' (first | (with_reducible first | assumption | exact Acc.refl _ | refine Acc.alloc ?_ _ | refine Acc.setCell ?_ ?_ _) | (refine leB ?_; omega)))
           clear hb
           go_wp2_with fail
           obtain ⟨⟨t1, t2, t3⟩, hv⟩ : ∃ o, partsR (timesF 0 0 0 g1 g2 g3) = o := ⟨_, rfl⟩
           obtain ⟨kt, hk⟩ : ∃ k, okR (timesF 0 0 0 g1 g2 g3) = k := ⟨_, rfl⟩
           obtain ⟨ht1, ht2, ht3⟩ := parts_i64 (fun _ _ _ h => times_ok h) hv
           have HV := Lib.hid hv
           have HK := Lib.hid hk
           clear hv hk
           refine (gave_any HV.out HK.out (implTimes_any 0 0 0 g1 g2 g3 i64_0 i64_0 i64_0 hg1 hg2 hg3 _ (HL.out _ (by repeat' (first | (with_reducible first | assumption | exact Acc.refl _ | refine Acc.alloc ?_ _ | refine Acc.setCell ?_ ?_ _) | (refine leB ?_; omega)))))).mono ?_
           rintro e W8 ⟨rfl, hb⟩
           obtain ⟨Ba, Bc, Bo, Bw, Bn, Bm, Bg⟩ : Blk W8 (W0.heap.size) [.int .i64 x1, .int .i64 x2, .int .i64 x3, .int .i64 y1, .int .i64 y2, .int .i64 y3] ∧ Blk W8 (W0.heap.size + 1) [.int .i64 0, .int .i64 c2, .int .i64 c3] ∧ Blk W8 (W1.heap.size) [.int .i64 u1, .int .i64 u2, .int .i64 u3, .int .i64 v1, .int .i64 v2, .int .i64 v3] ∧ Blk W8 (W2.heap.size) [.int .i64 u1, .int .i64 u2, .int .i64 u3, .int .i64 v1, .int .i64 v2, .int .i64 v3] ∧ Blk W8 (W5.heap.size) [.int .i64 n1, .int .i64 n2, .int .i64 n3] ∧ Blk W8 (W6.heap.size) [.int .i64 0, .int .i64 0, .int .i64 0] ∧ Blk W8 (W7.heap.size) [.int .i64 g1, .int .i64 g2, .int .i64 g3] := by
             refine ⟨?_, ?_, ?_, ?_, ?_, ?_, ?_⟩ <;> refine Blk.keep hb ?_ <;> (repeat' (first | (with_reducible first | assumption | apply Blk.set | (refine Blk.new ?_; focus (first | rfl | (simp; done))) | refine Blk.alloc ?_ _ | refine Blk.other ?_ ?_ _) | exact eqL rfl | (refine neB ?_; omega)))
           have ca := Ba.cell
           have fa := Ba.free
           have la_W8 := Ba.lt
           have cc := Bc.cell
           have fc := Bc.free
           have lc_W8 := Bc.lt
           have co := Bo.cell
           have fo := Bo.free
           have lo_W8 := Bo.lt
           have cw := Bw.cell
           have fw := Bw.free
           have lw_W8 := Bw.lt
           have cn := Bn.cell
           have fn := Bn.free
           have ln_W8 := Bn.lt
           have cm := Bm.cell
           have fm := Bm.free
           have lm_W8 := Bm.lt
           have cg := Bg.cell
           have fg := Bg.free
           have lg_W8 := Bg.lt
           have kaW8 : Acc w W8 := by
             refine Acc.call ?_ hb
             (repeat' (first | (with_reducible first | assumption | exact Acc.refl _ | refine Acc.alloc ?_ _ | refine Acc.setCell ?_ ?_ _) | (refine leB ?_; omega)))
           clear hb
           go_wp2_with fail
           all_goals
             go_ret
             refine ⟨by first | rfl | (simp [*]; done) | (simp [go_sem, *]; done), ?_⟩
             show Acc w _
             (repeat' (first | (with_reducible first | assumption | exact Acc.refl _ | refine Acc.alloc ?_ _ | refine Acc.setCell ?_ ?_ _) | (refine leB ?_; omega)))
          | some v =>
           obtain ⟨m1, m2, m3⟩ := v
           obtain ⟨hm1, hm2, hm3⟩ := okF_i64 (jpow_ok ht)
           have HM := Lib.hid ht
           clear ht
           refine (gave_some HM.out (implJPower_any x1 x2 x3 y1 y2 y3 hx1 hx2 hx3 hy1 hy2 hy3 _ (HL.out _ (by repeat' (first | (with_reducible first | assumption | exact Acc.refl _ | refine Acc.alloc ?_ _ | refine Acc.setCell ?_ ?_ _) | (refine leB ?_; omega)))))).mono ?_
           rintro e W6 ⟨rfl, hb⟩
           obtain ⟨Ba, Bc, Bo, Bw, Bn⟩ : Blk W6 (W0.heap.size) [.int .i64 x1, .int .i64 x2, .int .i64 x3, .int .i64 y1, .int .i64 y2, .int .i64 y3] ∧ Blk W6 (W0.heap.size + 1) [.int .i64 0, .int .i64 c2, .int .i64 c3] ∧ Blk W6 (W1.heap.size) [.int .i64 u1, .int .i64 u2, .int .i64 u3, .int .i64 v1, .int .i64 v2, .int .i64 v3] ∧ Blk W6 (W2.heap.size) [.int .i64 u1, .int .i64 u2, .int .i64 u3, .int .i64 v1, .int .i64 v2, .int .i64 v3] ∧ Blk W6 (W5.heap.size) [.int .i64 n1, .int .i64 n2, .int .i64 n3] := by
             refine ⟨?_, ?_, ?_, ?_, ?_⟩ <;> refine Blk.keep hb ?_ <;> (repeat' (first | (with_reducible first | assumption | apply Blk.set | (refine Blk.new ?_; focus (first | rfl | (simp; done))) | refine Blk.alloc ?_ _ | refine Blk.other ?_ ?_ _) | exact eqL rfl | (refine neB ?_; omega)))
           have ca := Ba.cell
           have fa := Ba.free
           have la_W6 := Ba.lt
           have cc := Bc.cell
           have fc := Bc.free
           have lc_W6 := Bc.lt
           have co := Bo.cell
           have fo := Bo.free
           have lo_W6 := Bo.lt
           have cw := Bw.cell
           have fw := Bw.free
           have lw_W6 := Bw.lt
           have cn := Bn.cell
           have fn := Bn.free
           have ln_W6 := Bn.lt
           have kaW6 : Acc w W6 := by
             refine Acc.call ?_ hb
             (repeat' (first | (with_reducible first | assumption | exact Acc.refl _ | refine Acc.alloc ?_ _ | refine Acc.setCell ?_ ?_ _) | (refine leB ?_; omega)))
           clear hb
           go_wp2_with fail
           cases ht : powerF 0 c2 c3 with
           | none =>
            have HG := Lib.hid ht
            clear ht
            refine (gave_none HG.out (implPower_any 0 c2 c3 i64_0 hc2 hc3 _ (HL.out _ (by repeat' (first | (with_reducible first | assumption | exact Acc.refl _ | refine Acc.alloc ?_ _ | refine Acc.setCell ?_ ?_ _) | (refine leB ?_; omega)))))).mono ?_
            rintro e W7 ⟨rfl, hb⟩
            obtain ⟨Ba, Bc, Bo, Bw, Bn, Bm⟩ : Blk W7 (W0.heap.size) [.int .i64 x1, .int .i64 x2, .int .i64 x3, .int .i64 y1, .int .i64 y2, .int .i64 y3] ∧ Blk W7 (W0.heap.size + 1) [.int .i64 0, .int .i64 c2, .int .i64 c3] ∧ Blk W7 (W1.heap.size) [.int .i64 u1, .int .i64 u2, .int .i64 u3, .int .i64 v1, .int .i64 v2, .int .i64 v3] ∧ Blk W7 (W2.heap.size) [.int .i64 u1, .int .i64 u2, .int .i64 u3, .int .i64 v1, .int .i64 v2, .int .i64 v3] ∧ Blk W7 (W5.heap.size) [.int .i64 n1, .int .i64 n2, .int .i64 n3] ∧ Blk W7 (W6.heap.size) [.int .i64 m1, .int .i64 m2, .int .i64 m3] := by
              refine ⟨?_, ?_, ?_, ?_, ?_, ?_⟩ <;> refine Blk.keep hb ?_ <;> (repeat' (first | (with_reducible first | assumption | apply Blk.set | (refine Blk.new ?_; focus (first | rfl | (simp; done))) | refine Blk.alloc ?_ _ | refine Blk.other ?_ ?_ _) | exact eqL rfl | (refine neB ?_; omega)))
            have ca := Ba.cell
            have fa := Ba.free
            have la_W7 := Ba.lt
            have cc := Bc.cell
            have fc := Bc.free
            have lc_W7 := Bc.lt
            have co := Bo.cell
            have fo := Bo.free
            have lo_W7 := Bo.lt
            have cw := Bw.cell
            have fw := Bw.free
            have lw_W7 := Bw.lt
            have cn := Bn.cell
            have fn := Bn.free
            have ln_W7 := Bn.lt
            have cm := Bm.cell
            have fm := Bm.free
            have lm_W7 := Bm.lt
            have kaW7 : Acc w W7 := by
              refine Acc.call ?_ hb
              (repeat' (first | (with_reducible first | assumption | exact Acc.refl _ | refine Acc.alloc ?_ _ | refine Acc.setCell ?_ ?_ _) | (refine leB ?_; omega)))
            clear hb
            go_wp2_with fail
            obtain ⟨⟨t1, t2, t3⟩, hv⟩ : ∃ o, partsR (timesF m1 m2 m3 0 0 0) = o := ⟨_, rfl⟩
            obtain ⟨kt, hk⟩ : ∃ k, okR (timesF m1 m2 m3 0 0 0) = k := ⟨_, rfl⟩
            obtain ⟨ht1, ht2, ht3⟩ := parts_i64 (fun _ _ _ h => times_ok h) hv
            have HV := Lib.hid hv
            have HK := Lib.hid hk
            clear hv hk
            refine (gave_any HV.out HK.out (implTimes_any m1 m2 m3 0 0 0 hm1 hm2 hm3 i64_0 i64_0 i64_0 _ (HL.out _ (by repeat' (first | (with_reducible first | assumption | exact Acc.refl _ | refine Acc.alloc ?_ _ | refine Acc.setCell ?_ ?_ _) | (refine leB ?_; omega)))))).mono ?_
            rintro e W8 ⟨rfl, hb⟩
            obtain ⟨Ba, Bc, Bo, Bw, Bn, Bm, Bg⟩ : Blk W8 (W0.heap.size) [.int .i64 x1, .int .i64 x2, .int .i64 x3, .int .i64 y1, .int .i64 y2, .int .i64 y3] ∧ Blk W8 (W0.heap.size + 1) [.int .i64 0, .int .i64 c2, .int .i64 c3] ∧ Blk W8 (W1.heap.size) [.int .i64 u1, .int .i64 u2, .int .i64 u3, .int .i64 v1, .int .i64 v2, .int .i64 v3] ∧ Blk W8 (W2.heap.size) [.int .i64 u1, .int .i64 u2, .int .i64 u3, .int .i64 v1, .int .i64 v2, .int .i64 v3] ∧ Blk W8 (W5.heap.size) [.int .i64 n1, .int .i64 n2, .int .i64 n3] ∧ Blk W8 (W6.heap.size) [.int .i64 m1, .int .i64 m2, .int .i64 m3] ∧ Blk W8 (W7.heap.size) [.int .i64 0, .int .i64 0, .int .i64 0] := by
              refine ⟨?_, ?_, ?_, ?_, ?_, ?_, ?_⟩ <;> refine Blk.keep hb ?_ <;> (repeat' (first | (with_reducible first | assumption | apply Blk.set | (refine Blk.new ?_; focus (first | rfl | (simp; done))) | refine Blk.alloc ?_ _ | refine Blk.other ?_ ?_ _) | exact eqL rfl | (refine neB ?_; omega)))
            have ca := Ba.cell
            have fa := Ba.free
            have la_W8 := Ba.lt
            have cc := Bc.cell
            have fc := Bc.free
            have lc_W8 := Bc.lt
            have co := Bo.cell
            have fo := Bo.free
            have lo_W8 := Bo.lt
            have cw := Bw.cell
            have fw := Bw.free
            have lw_W8 := Bw.lt
            have cn := Bn.cell
            have fn := Bn.free
            have ln_W8 := Bn.lt
            have cm := Bm.cell
            have fm := Bm.free
            have lm_W8 := Bm.lt
            have cg := Bg.cell
            have fg := Bg.free
            have lg_W8 := Bg.lt
            have kaW8 : Acc w W8 := by
              refine Acc.call ?_ hb
              (repeat' (first | (with_reducible first | assumption | exact Acc.refl _ | refine Acc.alloc ?_ _ | refine Acc.setCell ?_ ?_ _) | (refine leB ?_; omega)))
            clear hb
            go_wp2_with fail
            all_goals
              go_ret
              refine ⟨by first | rfl | (simp [*]; done) | (simp [go_sem, *]; done), ?_⟩
              show Acc w _
              (repeat' (first | (with_reducible first | assumption | exact Acc.refl _ | refine Acc.alloc ?_ _ | refine Acc.setCell ?_ ?_ _) | (refine leB ?_; omega)))
           | some v =>
            obtain ⟨g1, g2, g3⟩ := v
            obtain ⟨hg1, hg2, hg3⟩ := okF_i64 (power_ok ht)
            have HG := Lib.hid ht
            clear ht
            refine (gave_some HG.out (implPower_any 0 c2 c3 i64_0 hc2 hc3 _ (HL.out _ (by repeat' (first | (with_reducible first | assumption | exact Acc.refl _ | refine Acc.alloc ?_ _ | refine Acc.setCell ?_ ?_ _) | (refine leB ?_; omega)))))).mono ?_
            rintro e W7 ⟨rfl, hb⟩
            obtain ⟨Ba, Bc, Bo, Bw, Bn, Bm⟩ : Blk W7 (W0.heap.size) [.int .i64 x1, .int .i64 x2, .int .i64 x3, .int .i64 y1, .int .i64 y2, .int .i64 y3] ∧ Blk W7 (W0.heap.size + 1) [.int .i64 0, .int .i64 c2, .int .i64 c3] ∧ Blk W7 (W1.heap.size) [.int .i64 u1, .int .i64 u2, .int .i64 u3, .int .i64 v1, .int .i64 v2, .int .i64 v3] ∧ Blk W7 (W2.heap.size) [.int .i64 u1, .int .i64 u2, .int .i64 u3, .int .i64 v1, .int .i64 v2, .int .i64 v3] ∧ Blk W7 (W5.heap.size) [.int .i64 n1, .int .i64 n2, .int .i64 n3] ∧ Blk W7 (W6.heap.size) [.int .i64 m1, .int .i64 m2, .int .i64 m3] := by
              refine ⟨?_, ?_, ?_, ?_, ?_, ?_⟩ <;> refine Blk.keep hb ?_ <;> (repeat' (first | (with_reducible first | assumption | apply Blk.set | (refine Blk.new ?_; focus (first | rfl | (simp; done))) | refine Blk.alloc ?_ _ | refine Blk.other ?_ ?_ _) | exact eqL rfl | (refine neB ?_; omega)))
            have ca := Ba.cell
            have fa := Ba.free
            have la_W7 := Ba.lt
            have cc := Bc.cell
            have fc := Bc.free
            have lc_W7 := Bc.lt
            have co := Bo.cell
            have fo := Bo.free
            have lo_W7 := Bo.lt
            have cw := Bw.cell
            have fw := Bw.free
            have lw_W7 := Bw.lt
            have cn := Bn.cell
            have fn := Bn.free
            have ln_W7 := Bn.lt
            have cm := Bm.cell
            have fm := Bm.free
            have lm_W7 := Bm.lt
            have kaW7 : Acc w W7 := by
              refine Acc.call ?_ hb
              (repeat' (first | (with_reducible first | assumption | exact Acc.refl _ | refine Acc.alloc ?_ _ | refine Acc.setCell ?_ ?_ _) | (refine leB ?_; omega)))
            clear hb
            go_wp2_with fail
            cases ht : timesF m1 m2 m3 g1 g2 g3 with
            | none =>
             have HT := Lib.hid ht
             clear ht
             refine (gave_none HT.out (implTimes_any m1 m2 m3 g1 g2 g3 hm1 hm2 hm3 hg1 hg2 hg3 _ (HL.out _ (by repeat' (first | (with_reducible first | assumption | exact Acc.refl _ | refine Acc.alloc ?_ _ | refine Acc.setCell ?_ ?_ _) | (refine leB ?_; omega)))))).mono ?_
             rintro e W8 ⟨rfl, hb⟩
             obtain ⟨Ba, Bc, Bo, Bw, Bn, Bm, Bg⟩ : Blk W8 (W0.heap.size) [.int .i64 x1, .int .i64 x2, .int .i64 x3, .int .i64 y1, .int .i64 y2, .int .i64 y3] ∧ Blk W8 (W0.heap.size + 1) [.int .i64 0, .int .i64 c2, .int .i64 c3] ∧ Blk W8 (W1.heap.size) [.int .i64 u1, .int .i64 u2, .int .i64 u3, .int .i64 v1, .int .i64 v2, .int .i64 v3] ∧ Blk W8 (W2.heap.size) [.int .i64 u1, .int .i64 u2, .int .i64 u3, .int .i64 v1, .int .i64 v2, .int .i64 v3] ∧ Blk W8 (W5.heap.size) [.int .i64 n1, .int .i64 n2, .int .i64 n3] ∧ Blk W8 (W6.heap.size) [.int .i64 m1, .int .i64 m2, .int .i64 m3] ∧ Blk W8 (W7.heap.size) [.int .i64 g1, .int .i64 g2, .int .i64 g3] := by
               refine ⟨?_, ?_, ?_, ?_, ?_, ?_, ?_⟩ <;> refine Blk.keep hb ?_ <;> (repeat' (first | (with_reducible first | assumption | apply Blk.set | (refine Blk.new ?_; focus (first | rfl | (simp; done))) | refine Blk.alloc ?_ _ | refine Blk.other ?_ ?_ _) | exact eqL rfl | (refine neB ?_; omega)))
             have ca := Ba.cell
             have fa := Ba.free
             have la_W8 := Ba.lt
             have cc := Bc.cell
             have fc := Bc.free
             have lc_W8 := Bc.lt
             have co := Bo.cell
             have fo := Bo.free
             have lo_W8 := Bo.lt
             have cw := Bw.cell
             have fw := Bw.free
             have lw_W8 := Bw.lt
             have cn := Bn.cell
             have fn := Bn.free
             have ln_W8 := Bn.lt
             have cm := Bm.cell
             have fm := Bm.free
             have lm_W8 := Bm.lt
             have cg := Bg.cell
             have fg := Bg.free
             have lg_W8 := Bg.lt
             have kaW8 : Acc w W8 := by
               refine Acc.call ?_ hb
               (repeat' (first | (with_reducible first | assumption | exact Acc.refl _ | refine Acc.alloc ?_ _ | refine Acc.setCell ?_ ?_ _) | (refine leB ?_; omega)))
             clear hb
             go_wp2_with fail
             all_goals
               go_ret
               refine ⟨by first | rfl | (simp [*]; done) | (simp [go_sem, *]; done), ?_⟩
               show Acc w _
               (repeat' (first | (with_reducible first | assumption | exact Acc.refl _ | refine Acc.alloc ?_ _ | refine Acc.setCell ?_ ?_ _) | (refine leB ?_; omega)))
            | some v =>
             obtain ⟨t1, t2, t3⟩ := v
             obtain ⟨ht1, ht2, ht3⟩ := okF_i64 (times_ok ht)
             have HT := Lib.hid ht
             clear ht
             refine (gave_some HT.out (implTimes_any m1 m2 m3 g1 g2 g3 hm1 hm2 hm3 hg1 hg2 hg3 _ (HL.out _ (by repeat' (first | (with_reducible first | assumption | exact Acc.refl _ | refine Acc.alloc ?_ _ | refine Acc.setCell ?_ ?_ _) | (refine leB ?_; omega)))))).mono ?_
             rintro e W8 ⟨rfl, hb⟩
             obtain ⟨Ba, Bc, Bo, Bw, Bn, Bm, Bg⟩ : Blk W8 (W0.heap.size) [.int .i64 x1, .int .i64 x2, .int .i64 x3, .int .i64 y1, .int .i64 y2, .int .i64 y3] ∧ Blk W8 (W0.heap.size + 1) [.int .i64 0, .int .i64 c2, .int .i64 c3] ∧ Blk W8 (W1.heap.size) [.int .i64 u1, .int .i64 u2, .int .i64 u3, .int .i64 v1, .int .i64 v2, .int .i64 v3] ∧ Blk W8 (W2.heap.size) [.int .i64 u1, .int .i64 u2, .int .i64 u3, .int .i64 v1, .int .i64 v2, .int .i64 v3] ∧ Blk W8 (W5.heap.size) [.int .i64 n1, .int .i64 n2, .int .i64 n3] ∧ Blk W8 (W6.heap.size) [.int .i64 m1, .int .i64 m2, .int .i64 m3] ∧ Blk W8 (W7.heap.size) [.int .i64 g1, .int .i64 g2, .int .i64 g3] := by
               refine ⟨?_, ?_, ?_, ?_, ?_, ?_, ?_⟩ <;> refine Blk.keep hb ?_ <;> (repeat' (first | (with_reducible first | assumption | apply Blk.set | (refine Blk.new ?_; focus (first | rfl | (simp; done))) | refine Blk.alloc ?_ _ | refine Blk.other ?_ ?_ _) | exact eqL rfl | (refine neB ?_; omega)))
             have ca := Ba.cell
             have fa := Ba.free
             have la_W8 := Ba.lt
             have cc := Bc.cell
             have fc := Bc.free
             have lc_W8 := Bc.lt
             have co := Bo.cell
             have fo := Bo.free
             have lo_W8 := Bo.lt
             have cw := Bw.cell
             have fw := Bw.free
             have lw_W8 := Bw.lt
             have cn := Bn.cell
             have fn := Bn.free
             have ln_W8 := Bn.lt
             have cm := Bm.cell
             have fm := Bm.free
             have lm_W8 := Bm.lt
             have cg := Bg.cell
             have fg := Bg.free
             have lg_W8 := Bg.lt
             have kaW8 : Acc w W8 := by
               refine Acc.call ?_ hb
               (repeat' (first | (with_reducible first | assumption | exact Acc.refl _ | refine Acc.alloc ?_ _ | refine Acc.setCell ?_ ?_ _) | (refine leB ?_; omega)))
             clear hb
             go_wp2_with fail
             all_goals obtain ⟨⟩ := times_power HO.out HN.out HM.out HG.out HT.out
             all_goals try exact absurd rfl (by assumption)
             all_goals
               go_ret
               refine ⟨by first | rfl | (simp [*]; done) | (simp [go_sem, *]; done), ?_⟩
               show Acc w _
               (repeat' (first | (with_reducible first | assumption | exact Acc.refl _ | refine Acc.alloc ?_ _ | refine Acc.setCell ?_ ?_ _) | (refine leB ?_; omega)))
        | some v =>
         obtain ⟨q1, q2, q3⟩ := v
         have HQ := Lib.hid ht
         have HA := Lib.hid (times_alike HO.out (fun h => hz h.2) HP.out ht)
         clear ht
         refine (gave_some HQ.out (implTimes_any y1 y2 y3 u1 u2 u3 hy1 hy2 hy3 hu1 hu2 hu3 _ (HL.out _ (by repeat' (first | (with_reducible first | assumption | exact Acc.refl _ | refine Acc.alloc ?_ _ | refine Acc.setCell ?_ ?_ _) | (refine leB ?_; omega)))))).mono ?_
         rintro e W4 ⟨rfl, hb⟩
         obtain ⟨Ba, Bc, Bo, Bw⟩ : Blk W4 (W0.heap.size) [.int .i64 x1, .int .i64 x2, .int .i64 x3, .int .i64 y1, .int .i64 y2, .int .i64 y3] ∧ Blk W4 (W0.heap.size + 1) [.int .i64 0, .int .i64 c2, .int .i64 c3] ∧ Blk W4 (W1.heap.size) [.int .i64 u1, .int .i64 u2, .int .i64 u3, .int .i64 v1, .int .i64 v2, .int .i64 v3] ∧ Blk W4 (W2.heap.size) [.int .i64 u1, .int .i64 u2, .int .i64 u3, .int .i64 v1, .int .i64 v2, .int .i64 v3] := by
           refine ⟨?_, ?_, ?_, ?_⟩ <;> refine Blk.keep hb ?_ <;> (repeat' (first | (with_reducible first | assumption | apply Blk.set | (refine Blk.new ?_; focus (first | rfl | (simp; done))) | refine Blk.alloc ?_ _ | refine Blk.other ?_ ?_ _) | exact eqL rfl | (refine neB ?_; omega)))
         have ca := Ba.cell
         have fa := Ba.free
         have la_W4 := Ba.lt
         have cc := Bc.cell
         have fc := Bc.free
         have lc_W4 := Bc.lt
         have co := Bo.cell
         have fo := Bo.free
         have lo_W4 := Bo.lt
         have cw := Bw.cell
         have fw := Bw.free
         have lw_W4 := Bw.lt
         have kaW4 : Acc w W4 := by
           refine Acc.call ?_ hb
           (repeat' (first | (with_reducible first | assumption | exact Acc.refl _ | refine Acc.alloc ?_ _ | refine Acc.setCell ?_ ?_ _) | (refine leB ?_; omega)))
         clear hb
         go_wp2_with fail
         cases ht : jpowF u1 u2 u3 v1 v2 v3 with
         | none =>
          have HN := Lib.hid ht
          clear ht
          refine (gave_none HN.out (implJPower_any u1 u2 u3 v1 v2 v3 hu1 hu2 hu3 hv1 hv2 hv3 _ (HL.out _ (by repeat' (first | (with_reducible first | assumption | exact Acc.refl _ | refine Acc.alloc ?_ _ | refine Acc.setCell ?_ ?_ _) | (refine leB ?_; omega)))))).mono ?_
          rintro e W5 ⟨rfl, hb⟩
          obtain ⟨Ba, Bc, Bo, Bw⟩ : Blk W5 (W0.heap.size) [.int .i64 x1, .int .i64 x2, .int .i64 x3, .int .i64 y1, .int .i64 y2, .int .i64 y3] ∧ Blk W5 (W0.heap.size + 1) [.int .i64 0, .int .i64 c2, .int .i64 c3] ∧ Blk W5 (W1.heap.size) [.int .i64 u1, .int .i64 u2, .int .i64 u3, .int .i64 v1, .int .i64 v2, .int .i64 v3] ∧ Blk W5 (W2.heap.size) [.int .i64 u1, .int .i64 u2, .int .i64 u3, .int .i64 v1, .int .i64 v2, .int .i64 v3] := by
            refine ⟨?_, ?_, ?_, ?_⟩ <;> refine Blk.keep hb ?_ <;> (repeat' (first | (with_reducible first | assumption | apply Blk.set | (refine Blk.new ?_; focus (first | rfl | (simp; done))) | refine Blk.alloc ?_ _ | refine Blk.other ?_ ?_ _) | exact eqL rfl | (refine neB ?_; omega)))
          have ca := Ba.cell
          have fa := Ba.free
          have la_W5 := Ba.lt
          have cc := Bc.cell
          have fc := Bc.free
          have lc_W5 := Bc.lt
          have co := Bo.cell
          have fo := Bo.free
          have lo_W5 := Bo.lt
          have cw := Bw.cell
          have fw := Bw.free
          have lw_W5 := Bw.lt
          have kaW5 : Acc w W5 := by
            refine Acc.call ?_ hb
            (repeat' (first | (with_reducible first | assumption | exact Acc.refl _ | refine Acc.alloc ?_ _ | refine Acc.setCell ?_ ?_ _) | (refine leB ?_; omega)))
          clear hb
          go_wp2_with fail
          obtain ⟨⟨m1, m2, m3⟩, hv⟩ : ∃ o, partsR (jpowF x1 x2 x3 y1 y2 y3) = o := ⟨_, rfl⟩
          obtain ⟨km, hk⟩ : ∃ k, okR (jpowF x1 x2 x3 y1 y2 y3) = k := ⟨_, rfl⟩
          obtain ⟨hm1, hm2, hm3⟩ := parts_i64 (fun _ _ _ h => jpow_ok h) hv
          have HV := Lib.hid hv
          have HK := Lib.hid hk
          clear hv hk
          refine (gave_any HV.out HK.out (implJPower_any x1 x2 x3 y1 y2 y3 hx1 hx2 hx3 hy1 hy2 hy3 _ (HL.out _ (by repeat' (first | (with_reducible first | assumption | exact Acc.refl _ | refine Acc.alloc ?_ _ | refine Acc.setCell ?_ ?_ _) | (refine leB ?_; omega)))))).mono ?_
          rintro e W6 ⟨rfl, hb⟩
          obtain ⟨Ba, Bc, Bo, Bw, Bn⟩ : Blk W6 (W0.heap.size) [.int .i64 x1, .int .i64 x2, .int .i64 x3, .int .i64 y1, .int .i64 y2, .int .i64 y3] ∧ Blk W6 (W0.heap.size + 1) [.int .i64 0, .int .i64 c2, .int .i64 c3] ∧ Blk W6 (W1.heap.size) [.int .i64 u1, .int .i64 u2, .int .i64 u3, .int .i64 v1, .int .i64 v2, .int .i64 v3] ∧ Blk W6 (W2.heap.size) [.int .i64 u1, .int .i64 u2, .int .i64 u3, .int .i64 v1, .int .i64 v2, .int .i64 v3] ∧ Blk W6 (W5.heap.size) [.int .i64 0, .int .i64 0, .int .i64 0] := by
            refine ⟨?_, ?_, ?_, ?_, ?_⟩ <;> refine Blk.keep hb ?_ <;> (repeat' (first | (with_reducible first | assumption | apply Blk.set | (refine Blk.new ?_; focus (first | rfl | (simp; done))) | refine Blk.alloc ?_ _ | refine Blk.other ?_ ?_ _) | exact eqL rfl | (refine neB ?_; omega)))
          have ca := Ba.cell
          have fa := Ba.free
          have la_W6 := Ba.lt
          have cc := Bc.cell
          have fc := Bc.free
          have lc_W6 := Bc.lt
          have co := Bo.cell
          have fo := Bo.free
          have lo_W6 := Bo.lt
          have cw := Bw.cell
          have fw := Bw.free
          have lw_W6 := Bw.lt
          have cn := Bn.cell
          have fn := Bn.free
          have ln_W6 := Bn.lt
          have kaW6 : Acc w W6 := by
            refine Acc.call ?_ hb
            (repeat' (first | (with_reducible first | assumption | exact Acc.refl _ | refine Acc.alloc ?_ _ | refine Acc.setCell ?_ ?_ _) | (refine leB ?_; omega)))
          clear hb
          go_wp2_with fail
          obtain ⟨⟨g1, g2, g3⟩, hv⟩ : ∃ o, partsR (powerF 0 c2 c3) = o := ⟨_, rfl⟩
          obtain ⟨kg, hk⟩ : ∃ k, okR (powerF 0 c2 c3) = k := ⟨_, rfl⟩
          obtain ⟨hg1, hg2, hg3⟩ := parts_i64 (fun _ _ _ h => power_ok h) hv
          have HV := Lib.hid hv
          have HK := Lib.hid hk
          clear hv hk
          refine (gave_any HV.out HK.out (implPower_any 0 c2 c3 i64_0 hc2 hc3 _ (HL.out _ (by repeat' (first | (with_reducible first | assumption | exact Acc.refl _ | refine Acc.alloc ?_ _ | refine Acc.setCell ?_ ?_ _) | (refine leB ?_; omega)))))).mono ?_
          rintro e W7 ⟨rfl, hb⟩
          obtain ⟨Ba, Bc, Bo, Bw, Bn, Bm⟩ : Blk W7 (W0.heap.size) [.int .i64 x1, .int .i64 x2, .int .i64 x3, .int .i64 y1, .int .i64 y2, .int .i64 y3] ∧ Blk W7 (W0.heap.size + 1) [.int .i64 0, .int .i64 c2, .int .i64 c3] ∧ Blk W7 (W1.heap.size) [.int .i64 u1, .int .i64 u2, .int .i64 u3, .int .i64 v1, .int .i64 v2, .int .i64 v3] ∧ Blk W7 (W2.heap.size) [.int .i64 u1, .int .i64 u2, .int .i64 u3, .int .i64 v1, .int .i64 v2, .int .i64 v3] ∧ Blk W7 (W5.heap.size) [.int .i64 0, .int .i64 0, .int .i64 0] ∧ Blk W7 (W6.heap.size) [.int .i64 m1, .int .i64 m2, .int .i64 m3] := by
            refine ⟨?_, ?_, ?_, ?_, ?_, ?_⟩ <;> refine Blk.keep hb ?_ <;> (repeat' (first | (with_reducible first | assumption | apply Blk.set | (refine Blk.new ?_; focus (first | rfl | (simp; done))) | refine Blk.alloc ?_ _ | refine Blk.other ?_ ?_ _) | exact eqL rfl | (refine neB ?_; omega)))
          have ca := Ba.cell
          have fa := Ba.free
          have la_W7 := Ba.lt
          have cc := Bc.cell
          have fc := Bc.free
          have lc_W7 := Bc.lt
          have co := Bo.cell
          have fo := Bo.free
          have lo_W7 := Bo.lt
          have cw := Bw.cell
          have fw := Bw.free
          have lw_W7 := Bw.lt
          have cn := Bn.cell
          have fn := Bn.free
          have ln_W7 := Bn.lt
          have cm := Bm.cell
          have fm := Bm.free
          have lm_W7 := Bm.lt
          have kaW7 : Acc w W7 := by
            refine Acc.call ?_ hb
            (repeat' (first | (with_reducible first | assumption | exact Acc.refl _ | refine Acc.alloc ?_ _ | refine Acc.setCell ?_ ?_ _) | (refine leB ?_; omega)))
          clear hb
          go_wp2_with fail
          obtain ⟨⟨t1, t2, t3⟩, hv⟩ : ∃ o, partsR (timesF m1 m2 m3 g1 g2 g3) = o := ⟨_, rfl⟩
          obtain ⟨kt, hk⟩ : ∃ k, okR (timesF m1 m2 m3 g1 g2 g3) = k := ⟨_, rfl⟩
          obtain ⟨ht1, ht2, ht3⟩ := parts_i64 (fun _ _ _ h => times_ok h) hv
          have HV := Lib.hid hv
          have HK := Lib.hid hk
          clear hv hk
          refine (gave_any HV.out HK.out (implTimes_any m1 m2 m3 g1 g2 g3 hm1 hm2 hm3 hg1 hg2 hg3 _ (HL.out _ (by repeat' (first | (with_reducible first | assumption | exact Acc.refl _ | refine Acc.alloc ?_ _ | refine Acc.setCell ?_ ?_ _) | (refine leB ?_; omega)))))).mono ?_
          rintro e W8 ⟨rfl, hb⟩
          obtain ⟨Ba, Bc, Bo, Bw, Bn, Bm, Bg⟩ : Blk W8 (W0.heap.size) [.int .i64 x1, .int .i64 x2, .int .i64 x3, .int .i64 y1, .int .i64 y2, .int .i64 y3] ∧ Blk W8 (W0.heap.size + 1) [.int .i64 0, .int .i64 c2, .int .i64 c3] ∧ Blk W8 (W1.heap.size) [.int .i64 u1, .int .i64 u2, .int .i64 u3, .int .i64 v1, .int .i64 v2, .int .i64 v3] ∧ Blk W8 (W2.heap.size) [.int .i64 u1, .int .i64 u2, .int .i64 u3, .int .i64 v1, .int .i64 v2, .int .i64 v3] ∧ Blk W8 (W5.heap.size) [.int .i64 0, .int .i64 0, .int .i64 0] ∧ Blk W8 (W6.heap.size) [.int .i64 m1, .int .i64 m2, .int .i64 m3] ∧ Blk W8 (W7.heap.size) [.int .i64 g1, .int .i64 g2, .int .i64 g3] := by
            refine ⟨?_, ?_, ?_, ?_, ?_, ?_, ?_⟩ <;> refine Blk.keep hb ?_ <;> (repeat' (first | (with_reducible first | assumption | apply Blk.set | (refine Blk.new ?_; focus (first | rfl | (simp; done))) | refine Blk.alloc ?_ _ | refine Blk.other ?_ ?_ _) | exact eqL rfl | (refine neB ?_; omega)))
          have ca := Ba.cell
          have fa := Ba.free
          have la_W8 := Ba.lt
          have cc := Bc.cell
          have fc := Bc.free
          have lc_W8 := Bc.lt
          have co := Bo.cell
          have fo := Bo.free
          have lo_W8 := Bo.lt
          have cw := Bw.cell
          have fw := Bw.free
          have lw_W8 := Bw.lt
          have cn := Bn.cell
          have fn := Bn.free
          have ln_W8 := Bn.lt
          have cm := Bm.cell
          have fm := Bm.free
          have lm_W8 := Bm.lt
          have cg := Bg.cell
          have fg := Bg.free
          have lg_W8 := Bg.lt
          have kaW8 : Acc w W8 := by
            refine Acc.call ?_ hb
            (repeat' (first | (with_reducible first | assumption | exact Acc.refl _ | refine Acc.alloc ?_ _ | refine Acc.setCell ?_ ?_ _) | (refine leB ?_; omega)))
          clear hb
          go_wp2_with fail
          refine (valid_at HA.out (implJAlike_any x1 x2 x3 y1 y2 y3 u1 u2 u3 v1 v2 v3 hx1 hx2 hx3 hy1 hy2 hy3 hu1 hu2 hu3 hv1 hv2 hv3 _ (HL.out _ (by repeat' (first | (with_reducible first | assumption | exact Acc.refl _ | refine Acc.alloc ?_ _ | refine Acc.setCell ?_ ?_ _) | (refine leB ?_; omega)))))).mono ?_
          rintro e W9 ⟨rfl, hb⟩
          obtain ⟨Ba, Bc, Bo, Bw, Bn, Bm, Bg, Bt⟩ : Blk W9 (W0.heap.size) [.int .i64 x1, .int .i64 x2, .int .i64 x3, .int .i64 y1, .int .i64 y2, .int .i64 y3] ∧ Blk W9 (W0.heap.size + 1) [.int .i64 0, .int .i64 c2, .int .i64 c3] ∧ Blk W9 (W1.heap.size) [.int .i64 u1, .int .i64 u2, .int .i64 u3, .int .i64 v1, .int .i64 v2, .int .i64 v3] ∧ Blk W9 (W2.heap.size) [.int .i64 u1, .int .i64 u2, .int .i64 u3, .int .i64 v1, .int .i64 v2, .int .i64 v3] ∧ Blk W9 (W5.heap.size) [.int .i64 0, .int .i64 0, .int .i64 0] ∧ Blk W9 (W6.heap.size) [.int .i64 m1, .int .i64 m2, .int .i64 m3] ∧ Blk W9 (W7.heap.size) [.int .i64 g1, .int .i64 g2, .int .i64 g3] ∧ Blk W9 (W8.heap.size) [.int .i64 t1, .int .i64 t2, .int .i64 t3] := by
            refine ⟨?_, ?_, ?_, ?_, ?_, ?_, ?_, ?_⟩ <;> refine Blk.keep hb ?_ <;> (repeat' (first | (with_reducible first | assumption | apply Blk.set | (refine Blk.new ?_; focus (first | rfl | (simp; done))) | refine Blk.alloc ?_ _ | refine Blk.other ?_ ?_ _) | exact eqL rfl | (refine neB ?_; omega)))
          have ca := Ba.cell
          have fa := Ba.free
          have la_W9 := Ba.lt
          have cc := Bc.cell
          have fc := Bc.free
          have lc_W9 := Bc.lt
          have co := Bo.cell
          have fo := Bo.free
          have lo_W9 := Bo.lt
          have cw := Bw.cell
          have fw := Bw.free
          have lw_W9 := Bw.lt
          have cn := Bn.cell
          have fn := Bn.free
          have ln_W9 := Bn.lt
          have cm := Bm.cell
          have fm := Bm.free
          have lm_W9 := Bm.lt
          have cg := Bg.cell
          have fg := Bg.free
          have lg_W9 := Bg.lt
          have ct := Bt.cell
          have ft := Bt.free
          have lt_W9 := Bt.lt
          have kaW9 : Acc w W9 := by
            refine Acc.call ?_ hb
            (repeat' (first | (with_reducible first | assumption | exact Acc.refl _ | refine Acc.alloc ?_ _ | refine Acc.setCell ?_ ?_ _) | (refine leB ?_; omega)))
          clear hb
          go_wp2_with fail
          all_goals
            go_ret
            refine ⟨by first | rfl | (simp [*]; done) | (simp [go_sem, *]; done), ?_⟩
            show Acc w _
            (repeat' (first | (with_reducible first | assumption | exact Acc.refl _ | refine Acc.alloc ?_ _ | refine Acc.setCell ?_ ?_ _) | (refine leB ?_; omega)))
         | some v =>
          obtain ⟨n1, n2, n3⟩ := v
          obtain ⟨hn1, hn2, hn3⟩ := okF_i64 (jpow_ok ht)
          have HN := Lib.hid ht
          clear ht
          refine (gave_some HN.out (implJPower_any u1 u2 u3 v1 v2 v3 hu1 hu2 hu3 hv1 hv2 hv3 _ (HL.out _ (by repeat' (first | (with_reducible first | assumption | exact Acc.refl _ | refine Acc.alloc ?_ _ | refine Acc.setCell ?_ ?_ _) | (refine leB ?_; omega)))))).mono ?_
          rintro e W5 ⟨rfl, hb⟩
          obtain ⟨Ba, Bc, Bo, Bw⟩ : Blk W5 (W0.heap.size) [.int .i64 x1, .int .i64 x2, .int .i64 x3, .int .i64 y1, .int .i64 y2, .int .i64 y3] ∧ Blk W5 (W0.heap.size + 1) [.int .i64 0, .int .i64 c2, .int .i64 c3] ∧ Blk W5 (W1.heap.size) [.int .i64 u1, .int .i64 u2, .int .i64 u3, .int .i64 v1, .int .i64 v2, .int .i64 v3] ∧ Blk W5 (W2.heap.size) [.int .i64 u1, .int .i64 u2, .int .i64 u3, .int .i64 v1, .int .i64 v2, .int .i64 v3] := by
            refine ⟨?_, ?_, ?_, ?_⟩ <;> refine Blk.keep hb ?_ <;> (repeat' (first | (with_reducible first | assumption | apply Blk.set | (refine Blk.new ?_; focus (first | rfl | (simp; done))) | refine Blk.alloc ?_ _ | refine Blk.other ?_ ?_ _) | exact eqL rfl | (refine neB ?_; omega)))
          have ca := Ba.cell
          have fa := Ba.free
          have la_W5 := Ba.lt
          have cc := Bc.cell
          have fc := Bc.free
          have lc_W5 := Bc.lt
          have co := Bo.cell
          have fo := Bo.free
          have lo_W5 := Bo.lt
          have cw := Bw.cell
          have fw := Bw.free
          have lw_W5 := Bw.lt
          have kaW5 : Acc w W5 := by
            refine Acc.call ?_ hb
            (repeat' (first | (with_reducible first | assumption | exact Acc.refl _ | refine Acc.alloc ?_ _ | refine Acc.setCell ?_ ?_ _) | (refine leB ?_; omega)))
          clear hb
          go_wp2_with fail
          cases ht : jpowF x1 x2 x3 y1 y2 y3 with
          | none =>
           have HM := Lib.hid ht
           clear ht
           refine (gave_none HM.out (implJPower_any x1 x2 x3 y1 y2 y3 hx1 hx2 hx3 hy1 hy2 hy3 _ (HL.out _ (by repeat' (first | (with_reducible first | assumption | exact Acc.refl _ | refine Acc.alloc ?_ _ | refine Acc.setCell ?_ ?_ _) | (refine leB ?_; omega)))))).mono ?_
           rintro e W6 ⟨rfl, hb⟩
           obtain ⟨Ba, Bc, Bo, Bw, Bn⟩ : Blk W6 (W0.heap.size) [.int .i64 x1, .int .i64 x2, .int .i64 x3, .int .i64 y1, .int .i64 y2, .int .i64 y3] ∧ Blk W6 (W0.heap.size + 1) [.int .i64 0, .int .i64 c2, .int .i64 c3] ∧ Blk W6 (W1.heap.size) [.int .i64 u1, .int .i64 u2, .int .i64 u3, .int .i64 v1, .int .i64 v2, .int .i64 v3] ∧ Blk W6 (W2.heap.size) [.int .i64 u1, .int .i64 u2, .int .i64 u3, .int .i64 v1, .int .i64 v2, .int .i64 v3] ∧ Blk W6 (W5.heap.size) [.int .i64 n1, .int .i64 n2, .int .i64 n3] := by
             refine ⟨?_, ?_, ?_, ?_, ?_⟩ <;> refine Blk.keep hb ?_ <;> (repeat' (first | (with_reducible first | assumption | apply Blk.set | (refine Blk.new ?_; focus (first | rfl | (simp; done))) | refine Blk.alloc ?_ _ | refine Blk.other ?_ ?_ _) | exact eqL rfl | (refine neB ?_; omega)))
           have ca := Ba.cell
           have fa := Ba.free
           have la_W6 := Ba.lt
           have cc := Bc.cell
           have fc := Bc.free
           have lc_W6 := Bc.lt
           have co := Bo.cell
           have fo := Bo.free
           have lo_W6 := Bo.lt
           have cw := Bw.cell
           have fw := Bw.free
           have lw_W6 := Bw.lt
           have cn := Bn.cell
           have fn := Bn.free
           have ln_W6 := Bn.lt
           have kaW6 : Acc w W6 := by
             refine Acc.call ?_ hb
             (repeat' (first | (with_reducible first | assumption | exact Acc.refl _ | refine Acc.alloc ?_ _ | refine Acc.setCell ?_ ?_ _) | (refine leB ?_; omega)))
           clear hb
           go_wp2_with fail
           obtain ⟨⟨g1, g2, g3⟩, hv⟩ : ∃ o, partsR (powerF 0 c2 c3) = o := ⟨_, rfl⟩
           obtain ⟨kg, hk⟩ : ∃ k, okR (powerF 0 c2 c3) = k := ⟨_, rfl⟩
           obtain ⟨hg1, hg2, hg3⟩ := parts_i64 (fun _ _ _ h => power_ok h) hv
           have HV := Lib.hid hv
           have HK := Lib.hid hk
           clear hv hk
           refine (gave_any HV.out HK.out (implPower_any 0 c2 c3 i64_0 hc2 hc3 _ (HL.out _ (by repeat' (first | (with_reducible first | assumption | exact Acc.refl _ | refine Acc.alloc ?_ _ | refine Acc.setCell ?_ ?_ _) | (refine leB ?_; omega)))))).mono ?_
           rintro e W7 ⟨rfl, hb⟩
           obtain ⟨Ba, Bc, Bo, Bw, Bn, Bm⟩ : Blk W7 (W0.heap.size) [.int .i64 x1, .int .i64 x2, .int .i64 x3, .int .i64 y1, .int .i64 y2, .int .i64 y3] ∧ Blk W7 (W0.heap.size + 1) [.int .i64 0, .int .i64 c2, .int .i64 c3] ∧ Blk W7 (W1.heap.size) [.int .i64 u1, .int .i64 u2, .int .i64 u3, .int .i64 v1, .int .i64 v2, .int .i64 v3] ∧ Blk W7 (W2.heap.size) [.int .i64 u1, .int .i64 u2, .int .i64 u3, .int .i64 v1, .int .i64 v2, .int .i64 v3] ∧ Blk W7 (W5.heap.size) [.int .i64 n1, .int .i64 n2, .int .i64 n3] ∧ Blk W7 (W6.heap.size) [.int .i64 0, .int .i64 0, .int .i64 0] := by
             refine ⟨?_, ?_, ?_, ?_, ?_, ?_⟩ <;> refine Blk.keep hb ?_ <;> (repeat' (first | (with_reducible first | assumption | apply Blk.set | (refine Blk.new ?_; focus (first | rfl | (simp; done))) | refine Blk.alloc ?_ _ | refine Blk.other ?_ ?_ _) | exact eqL rfl | (refine neB ?_; omega)))
           have ca := Ba.cell
           have fa := Ba.free
           have la_W7 := Ba.lt
           have cc := Bc.cell
           have fc := Bc.free
           have lc_W7 := Bc.lt
           have co := Bo.cell
           have fo := Bo.free
           have lo_W7 := Bo.lt
           have cw := Bw.cell
           have fw := Bw.free
           have lw_W7 := Bw.lt
           have cn := Bn.cell
           have fn := Bn.free
           have ln_W7 := Bn.lt
           have cm := Bm.cell
           have fm := Bm.free
           have lm_W7 := Bm.lt
           have kaW7 : Acc w W7 := by
             refine Acc.call ?_ hb
             (repeat' (first | (with_reducible first | assumption | exact Acc.refl _ | refine Acc.alloc ?_ _ | refine Acc.setCell ?_ ?_ _) | (refine leB ?_; omega)))
           clear hb
           go_wp2_with fail
           obtain ⟨⟨t1, t2, t3⟩, hv⟩ : ∃ o, partsR (timesF 0 0 0 g1 g2 g3) = o := ⟨_, rfl⟩
           obtain ⟨kt, hk⟩ : ∃ k, okR (timesF 0 0 0 g1 g2 g3) = k := ⟨_, rfl⟩
           obtain ⟨ht1, ht2, ht3⟩ := parts_i64 (fun _ _ _ h => times_ok h) hv
           have HV := Lib.hid hv
           have HK := Lib.hid hk
           clear hv hk
           refine (gave_any HV.out HK.out (implTimes_any 0 0 0 g1 g2 g3 i64_0 i64_0 i64_0 hg1 hg2 hg3 _ (HL.out _ (by repeat' (first | (with_reducible first | assumption | exact Acc.refl _ | refine Acc.alloc ?_ _ | refine Acc.setCell ?_ ?_ _) | (refine leB ?_; omega)))))).mono ?_
           rintro e W8 ⟨rfl, hb⟩
           obtain ⟨Ba, Bc, Bo, Bw, Bn, Bm, Bg⟩ : Blk W8 (W0.heap.size) [.int .i64 x1, .int .i64 x2, .int .i64 x3, .int .i64 y1, .int .i64 y2, .int .i64 y3] ∧ Blk W8 (W0.heap.size + 1) [.int .i64 0, .int .i64 c2, .int .i64 c3] ∧ Blk W8 (W1.heap.size) [.int .i64 u1, .int .i64 u2, .int .i64 u3, .int .i64 v1, .int .i64 v2, .int .i64 v3] ∧ Blk W8 (W2.heap.size) [.int .i64 u1, .int .i64 u2, .int .i64 u3, .int .i64 v1, .int .i64 v2, .int .i64 v3] ∧ Blk W8 (W5.heap.size) [.int .i64 n1, .int .i64 n2, .int .i64 n3] ∧ Blk W8 (W6.heap.size) [.int .i64 0, .int .i64 0, .int .i64 0] ∧ Blk W8 (W7.heap.size) [.int .i64 g1, .int .i64 g2, .int .i64 g3] := by
             refine ⟨?_, ?_, ?_, ?_, ?_, ?_, ?_⟩ <;> refine Blk.keep hb ?_ <;> (repeat' (first | (with_reducible first | assumption | apply Blk.set | (refine Blk.new ?_; focus (first | rfl | (simp; done))) | refine Blk.alloc ?_ _ | refine Blk.other ?_ ?_ _) | exact eqL rfl | (refine neB ?_; omega)))
           have ca := Ba.cell
           have fa := Ba.free
           have la_W8 := Ba.lt
           have cc := Bc.cell
           have fc := Bc.free
           have lc_W8 := Bc.lt
           have co := Bo.cell
           have fo := Bo.free
           have lo_W8 := Bo.lt
           have cw := Bw.cell
           have fw := Bw.free
           have lw_W8 := Bw.lt
           have cn := Bn.cell
           have fn := Bn.free
           have ln_W8 := Bn.lt
           have cm := Bm.cell
           have fm := Bm.free
           have lm_W8 := Bm.lt
           have cg := Bg.cell
           have fg := Bg.free
           have lg_W8 := Bg.lt
           have kaW8 : Acc w W8 := by
             refine Acc.call ?_ hb
             (repeat' (first | (with_reducible first | assumption | exact Acc.refl _ | refine Acc.alloc ?_ _ | refine Acc.setCell ?_ ?_ _) | (refine leB ?_; omega)))
           clear hb
           go_wp2_with fail
           refine (valid_at HA.out (implJAlike_any x1 x2 x3 y1 y2 y3 u1 u2 u3 v1 v2 v3 hx1 hx2 hx3 hy1 hy2 hy3 hu1 hu2 hu3 hv1 hv2 hv3 _ (HL.out _ (by repeat' (first | (with_reducible first | assumption | exact Acc.refl _ | refine Acc.alloc ?_ _ | refine Acc.setCell ?_ ?_ _) | (refine leB ?_; omega)))))).mono ?_
           rintro e W9 ⟨rfl, hb⟩
           obtain ⟨Ba, Bc, Bo, Bw, Bn, Bm, Bg, Bt⟩ : Blk W9 (W0.heap.size) [.int .i64 x1, .int .i64 x2, .int .i64 x3, .int .i64 y1, .int .i64 y2, .int .i64 y3] ∧ Blk W9 (W0.heap.size + 1) [.int .i64 0, .int .i64 c2, .int .i64 c3] ∧ Blk W9 (W1.heap.size) [.int .i64 u1, .int .i64 u2, .int .i64 u3, .int .i64 v1, .int .i64 v2, .int .i64 v3] ∧ Blk W9 (W2.heap.size) [.int .i64 u1, .int .i64 u2, .int .i64 u3, .int .i64 v1, .int .i64 v2, .int .i64 v3] ∧ Blk W9 (W5.heap.size) [.int .i64 n1, .int .i64 n2, .int .i64 n3] ∧ Blk W9 (W6.heap.size) [.int .i64 0, .int .i64 0, .int .i64 0] ∧ Blk W9 (W7.heap.size) [.int .i64 g1, .int .i64 g2, .int .i64 g3] ∧ Blk W9 (W8.heap.size) [.int .i64 t1, .int .i64 t2, .int .i64 t3] := by
             refine ⟨?_, ?_, ?_, ?_, ?_, ?_, ?_, ?_⟩ <;> refine Blk.keep hb ?_ <;> (repeat' (first | (with_reducible first | assumption | apply Blk.set | (refine Blk.new ?_; focus (first | rfl | (simp; done))) | refine Blk.alloc ?_ _ | refine Blk.other ?_ ?_ _) | exact eqL rfl | (refine neB ?_; omega)))
           have ca := Ba.cell
           have fa := Ba.free
           have la_W9 := Ba.lt
           have cc := Bc.cell
           have fc := Bc.free
           have lc_W9 := Bc.lt
           have co := Bo.cell
           have fo := Bo.free
           have lo_W9 := Bo.lt
           have cw := Bw.cell
           have fw := Bw.free
           have lw_W9 := Bw.lt
           have cn := Bn.cell
           have fn := Bn.free
           have ln_W9 := Bn.lt
           have cm := Bm.cell
           have fm := Bm.free
           have lm_W9 := Bm.lt
           have cg := Bg.cell
           have fg := Bg.free
           have lg_W9 := Bg.lt
           have ct := Bt.cell
           have ft := Bt.free
           have lt_W9 := Bt.lt
           have kaW9 : Acc w W9 := by
             refine Acc.call ?_ hb
             (repeat' (first | (with_reducible first | assumption | exact Acc.refl _ | refine Acc.alloc ?_ _ | refine Acc.setCell ?_ ?_ _) | (refine leB ?_; omega)))
           clear hb
           go_wp2_with fail
           all_goals
             go_ret
             refine ⟨by first | rfl | (simp [*]; done) | (simp [go_sem, *]; done), ?_⟩
             show Acc w _
             (repeat' (first | (with_reducible first | assumption | exact Acc.refl _ | refine Acc.alloc ?_ _ | refine Acc.setCell ?_ ?_ _) | (refine leB ?_; omega)))
          | some v =>
           obtain ⟨m1, m2, m3⟩ := v
           obtain ⟨hm1, hm2, hm3⟩ := okF_i64 (jpow_ok ht)
           have HM := Lib.hid ht
           clear ht
           refine (gave_some HM.out (implJPower_any x1 x2 x3 y1 y2 y3 hx1 hx2 hx3 hy1 hy2 hy3 _ (HL.out _ (by repeat' (first | (with_reducible first | assumption | exact Acc.refl _ | refine Acc.alloc ?_ _ | refine Acc.setCell ?_ ?_ _) | (refine leB ?_; omega)))))).mono ?_
           rintro e W6 ⟨rfl, hb⟩
           obtain ⟨Ba, Bc, Bo, Bw, Bn⟩ : Blk W6 (W0.heap.size) [.int .i64 x1, .int .i64 x2, .int .i64 x3, .int .i64 y1, .int .i64 y2, .int .i64 y3] ∧ Blk W6 (W0.heap.size + 1) [.int .i64 0, .int .i64 c2, .int .i64 c3] ∧ Blk W6 (W1.heap.size) [.int .i64 u1, .int .i64 u2, .int .i64 u3, .int .i64 v1, .int .i64 v2, .int .i64 v3] ∧ Blk W6 (W2.heap.size) [.int .i64 u1, .int .i64 u2, .int .i64 u3, .int .i64 v1, .int .i64 v2, .int .i64 v3] ∧ Blk W6 (W5.heap.size) [.int .i64 n1, .int .i64 n2, .int .i64 n3] := by
             refine ⟨?_, ?_, ?_, ?_, ?_⟩ <;> refine Blk.keep hb ?_ <;> (repeat' (first | (with_reducible first | assumption | apply Blk.set | (refine Blk.new ?_; focus (first | rfl | (simp; done))) | refine Blk.alloc ?_ _ | refine Blk.other ?_ ?_ _) | exact eqL rfl | (refine neB ?_; omega)))
           have ca := Ba.cell
           have fa := Ba.free
           have la_W6 := Ba.lt
           have cc := Bc.cell
           have fc := Bc.free
           have lc_W6 := Bc.lt
           have co := Bo.cell
           have fo := Bo.free
           have lo_W6 := Bo.lt
           have cw := Bw.cell
           have fw := Bw.free
           have lw_W6 := Bw.lt
           have cn := Bn.cell
           have fn := Bn.free
           have ln_W6 := Bn.lt
           have kaW6 : Acc w W6 := by
             refine Acc.call ?_ hb
             (repeat' (first | (with_reducible first | assumption | exact Acc.refl _ | refine Acc.alloc ?_ _ | refine Acc.setCell ?_ ?_ _) | (refine leB ?_; omega)))
           clear hb
           go_wp2_with fail
           cases ht : powerF 0 c2 c3 with
           | none =>
            have HG := Lib.hid ht
            clear ht
            refine (gave_none HG.out (implPower_any 0 c2 c3 i64_0 hc2 hc3 _ (HL.out _ (by repeat' (first | (with_reducible first | assumption | exact Acc.refl _ | refine Acc.alloc ?_ _ | refine Acc.setCell ?_ ?_ _) | (refine leB ?_; omega)))))).mono ?_
            rintro e W7 ⟨rfl, hb⟩
            obtain ⟨Ba, Bc, Bo, Bw, Bn, Bm⟩ : Blk W7 (W0.heap.size) [.int .i64 x1, .int .i64 x2, .int .i64 x3, .int .i64 y1, .int .i64 y2, .int .i64 y3] ∧ Blk W7 (W0.heap.size + 1) [.int .i64 0, .int .i64 c2, .int .i64 c3] ∧ Blk W7 (W1.heap.size) [.int .i64 u1, .int .i64 u2, .int .i64 u3, .int .i64 v1, .int .i64 v2, .int .i64 v3] ∧ Blk W7 (W2.heap.size) [.int .i64 u1, .int .i64 u2, .int .i64 u3, .int .i64 v1, .int .i64 v2, .int .i64 v3] ∧ Blk W7 (W5.heap.size) [.int .i64 n1, .int .i64 n2, .int .i64 n3] ∧ Blk W7 (W6.heap.size) [.int .i64 m1, .int .i64 m2, .int .i64 m3] := by
              refine ⟨?_, ?_, ?_, ?_, ?_, ?_⟩ <;> refine Blk.keep hb ?_ <;> (repeat' (first | (with_reducible first | assumption | apply Blk.set | (refine Blk.new ?_; focus (first | rfl | (simp; done))) | refine Blk.alloc ?_ _ | refine Blk.other ?_ ?_ _) | exact eqL rfl | (refine neB ?_; omega)))
            have ca := Ba.cell
            have fa := Ba.free
            have la_W7 := Ba.lt
            have cc := Bc.cell
            have fc := Bc.free
            have lc_W7 := Bc.lt
            have co := Bo.cell
            have fo := Bo.free
            have lo_W7 := Bo.lt
            have cw := Bw.cell
            have fw := Bw.free
            have lw_W7 := Bw.lt
            have cn := Bn.cell
            have fn := Bn.free
            have ln_W7 := Bn.lt
            have cm := Bm.cell
            have fm := Bm.free
            have lm_W7 := Bm.lt
            have kaW7 : Acc w W7 := by
              refine Acc.call ?_ hb
              (repeat' (first | (with_reducible first | assumption | exact Acc.refl _ | refine Acc.alloc ?_ _ | refine Acc.setCell ?_ ?_ _) | (refine leB ?_; omega)))
            clear hb
            go_wp2_with fail
            obtain ⟨⟨t1, t2, t3⟩, hv⟩ : ∃ o, partsR (timesF m1 m2 m3 0 0 0) = o := ⟨_, rfl⟩
            obtain ⟨kt, hk⟩ : ∃ k, okR (timesF m1 m2 m3 0 0 0) = k := ⟨_, rfl⟩
            obtain ⟨ht1, ht2, ht3⟩ := parts_i64 (fun _ _ _ h => times_ok h) hv
            have HV := Lib.hid hv
            have HK := Lib.hid hk
            clear hv hk
            refine (gave_any HV.out HK.out (implTimes_any m1 m2 m3 0 0 0 hm1 hm2 hm3 i64_0 i64_0 i64_0 _ (HL.out _ (by repeat' (first | (with_reducible first | assumption | exact Acc.refl _ | refine Acc.alloc ?_ _ | refine Acc.setCell ?_ ?_ _) | (refine leB ?_; omega)))))).mono ?_
            rintro e W8 ⟨rfl, hb⟩
            obtain ⟨Ba, Bc, Bo, Bw, Bn, Bm, Bg⟩ : Blk W8 (W0.heap.size) [.int .i64 x1, .int .i64 x2, .int .i64 x3, .int .i64 y1, .int .i64 y2, .int .i64 y3] ∧ Blk W8 (W0.heap.size + 1) [.int .i64 0, .int .i64 c2, .int .i64 c3] ∧ Blk W8 (W1.heap.size) [.int .i64 u1, .int .i64 u2, .int .i64 u3, .int .i64 v1, .int .i64 v2, .int .i64 v3] ∧ Blk W8 (W2.heap.size) [.int .i64 u1, .int .i64 u2, .int .i64 u3, .int .i64 v1, .int .i64 v2, .int .i64 v3] ∧ Blk W8 (W5.heap.size) [.int .i64 n1, .int .i64 n2, .int .i64 n3] ∧ Blk W8 (W6.heap.size) [.int .i64 m1, .int .i64 m2, .int .i64 m3] ∧ Blk W8 (W7.heap.size) [.int .i64 0, .int .i64 0, .int .i64 0] := by
              refine ⟨?_, ?_, ?_, ?_, ?_, ?_, ?_⟩ <;> refine Blk.keep hb ?_ <;> (repeat' (first | (with_reducible first | assumption | apply Blk.set | (refine Blk.new ?_; focus (first | rfl | (simp; done))) | refine Blk.alloc ?_ _ | refine Blk.other ?_ ?_ _) | exact eqL rfl | (refine neB ?_; omega)))
            have ca := Ba.cell
            have fa := Ba.free
            have la_W8 := Ba.lt
            have cc := Bc.cell
            have fc := Bc.free
            have lc_W8 := Bc.lt
            have co := Bo.cell
            have fo := Bo.free
            have lo_W8 := Bo.lt
            have cw := Bw.cell
            have fw := Bw.free
            have lw_W8 := Bw.lt
            have cn := Bn.cell
            have fn := Bn.free
            have ln_W8 := Bn.lt
            have cm := Bm.cell
            have fm := Bm.free
            have lm_W8 := Bm.lt
            have cg := Bg.cell
            have fg := Bg.free
            have lg_W8 := Bg.lt
            have kaW8 : Acc w W8 := by
              refine Acc.call ?_ hb
              (repeat' (first | (with_reducible first | assumption | exact Acc.refl _ | refine Acc.alloc ?_ _ | refine Acc.setCell ?_ ?_ _) | (refine leB ?_; omega)))
            clear hb
            go_wp2_with fail
            refine (valid_at HA.out (implJAlike_any x1 x2 x3 y1 y2 y3 u1 u2 u3 v1 v2 v3 hx1 hx2 hx3 hy1 hy2 hy3 hu1 hu2 hu3 hv1 hv2 hv3 _ (HL.out _ (by repeat' (first | (with_reducible first | assumption | exact Acc.refl _ | refine Acc.alloc ?_ _ | refine Acc.setCell ?_ ?_ _) | (refine leB ?_; omega)))))).mono ?_
            rintro e W9 ⟨rfl, hb⟩
            obtain ⟨Ba, Bc, Bo, Bw, Bn, Bm, Bg, Bt⟩ : Blk W9 (W0.heap.size) [.int .i64 x1, .int .i64 x2, .int .i64 x3, .int .i64 y1, .int .i64 y2, .int .i64 y3] ∧ Blk W9 (W0.heap.size + 1) [.int .i64 0, .int .i64 c2, .int .i64 c3] ∧ Blk W9 (W1.heap.size) [.int .i64 u1, .int .i64 u2, .int .i64 u3, .int .i64 v1, .int .i64 v2, .int .i64 v3] ∧ Blk W9 (W2.heap.size) [.int .i64 u1, .int .i64 u2, .int .i64 u3, .int .i64 v1, .int .i64 v2, .int .i64 v3] ∧ Blk W9 (W5.heap.size) [.int .i64 n1, .int .i64 n2, .int .i64 n3] ∧ Blk W9 (W6.heap.size) [.int .i64 m1, .int .i64 m2, .int .i64 m3] ∧ Blk W9 (W7.heap.size) [.int .i64 0, .int .i64 0, .int .i64 0] ∧ Blk W9 (W8.heap.size) [.int .i64 t1, .int .i64 t2, .int .i64 t3] := by
              refine ⟨?_, ?_, ?_, ?_, ?_, ?_, ?_, ?_⟩ <;> refine Blk.keep hb ?_ <;> (repeat' (first | (with_reducible first | assumption | apply Blk.set | (refine Blk.new ?_; focus (first | rfl | (simp; done))) | refine Blk.alloc ?_ _ | refine Blk.other ?_ ?_ _) | exact eqL rfl | (refine neB ?_; omega)))
            have ca := Ba.cell
            have fa := Ba.free
            have la_W9 := Ba.lt
            have cc := Bc.cell
            have fc := Bc.free
            have lc_W9 := Bc.lt
            have co := Bo.cell
            have fo := Bo.free
            have lo_W9 := Bo.lt
            have cw := Bw.cell
            have fw := Bw.free
            have lw_W9 := Bw.lt
            have cn := Bn.cell
            have fn := Bn.free
            have ln_W9 := Bn.lt
            have cm := Bm.cell
            have fm := Bm.free
            have lm_W9 := Bm.lt
            have cg := Bg.cell
            have fg := Bg.free
            have lg_W9 := Bg.lt
            have ct := Bt.cell
            have ft := Bt.free
            have lt_W9 := Bt.lt
            have kaW9 : Acc w W9 := by
              refine Acc.call ?_ hb
              (repeat' (first | (with_reducible first | assumption | exact Acc.refl _ | refine Acc.alloc ?_ _ | refine Acc.setCell ?_ ?_ _) | (refine leB ?_; omega)))
            clear hb
            go_wp2_with fail
            all_goals
              go_ret
              refine ⟨by first | rfl | (simp [*]; done) | (simp [go_sem, *]; done), ?_⟩
              show Acc w _
              (repeat' (first | (with_reducible first | assumption | exact Acc.refl _ | refine Acc.alloc ?_ _ | refine Acc.setCell ?_ ?_ _) | (refine leB ?_; omega)))
           | some v =>
            obtain ⟨g1, g2, g3⟩ := v
            obtain ⟨hg1, hg2, hg3⟩ := okF_i64 (power_ok ht)
            have HG := Lib.hid ht
            clear ht
            refine (gave_some HG.out (implPower_any 0 c2 c3 i64_0 hc2 hc3 _ (HL.out _ (by repeat' (first | (with_reducible first | assumption | exact Acc.refl _ | refine Acc.alloc ?_ _ | refine Acc.setCell ?_ ?_ _) | (refine leB ?_; omega)))))).mono ?_
            rintro e W7 ⟨rfl, hb⟩
            obtain ⟨Ba, Bc, Bo, Bw, Bn, Bm⟩ : Blk W7 (W0.heap.size) [.int .i64 x1, .int .i64 x2, .int .i64 x3, .int .i64 y1, .int .i64 y2, .int .i64 y3] ∧ Blk W7 (W0.heap.size + 1) [.int .i64 0, .int .i64 c2, .int .i64 c3] ∧ Blk W7 (W1.heap.size) [.int .i64 u1, .int .i64 u2, .int .i64 u3, .int .i64 v1, .int .i64 v2, .int .i64 v3] ∧ Blk W7 (W2.heap.size) [.int .i64 u1, .int .i64 u2, .int .i64 u3, .int .i64 v1, .int .i64 v2, .int .i64 v3] ∧ Blk W7 (W5.heap.size) [.int .i64 n1, .int .i64 n2, .int .i64 n3] ∧ Blk W7 (W6.heap.size) [.int .i64 m1, .int .i64 m2, .int .i64 m3] := by
              refine ⟨?_, ?_, ?_, ?_, ?_, ?_⟩ <;> refine Blk.keep hb ?_ <;> (repeat' (first | (with_reducible first | assumption | apply Blk.set | (refine Blk.new ?_; focus (first | rfl | (simp; done))) | refine Blk.alloc ?_ _ | refine Blk.other ?_ ?_ _) | exact eqL rfl | (refine neB ?_; omega)))
            have ca := Ba.cell
            have fa := Ba.free
            have la_W7 := Ba.lt
            have cc := Bc.cell
            have fc := Bc.free
            have lc_W7 := Bc.lt
            have co := Bo.cell
            have fo := Bo.free
            have lo_W7 := Bo.lt
            have cw := Bw.cell
            have fw := Bw.free
            have lw_W7 := Bw.lt
            have cn := Bn.cell
            have fn := Bn.free
            have ln_W7 := Bn.lt
            have cm := Bm.cell
            have fm := Bm.free
            have lm_W7 := Bm.lt
            have kaW7 : Acc w W7 := by
              refine Acc.call ?_ hb
              (repeat' (first | (with_reducible first | assumption | exact Acc.refl _ | refine Acc.alloc ?_ _ | refine Acc.setCell ?_ ?_ _) | (refine leB ?_; omega)))
            clear hb
            go_wp2_with fail
            cases ht : timesF m1 m2 m3 g1 g2 g3 with
            | none =>
             have HT := Lib.hid ht
             clear ht
             refine (gave_none HT.out (implTimes_any m1 m2 m3 g1 g2 g3 hm1 hm2 hm3 hg1 hg2 hg3 _ (HL.out _ (by repeat' (first | (with_reducible first | assumption | exact Acc.refl _ | refine Acc.alloc ?_ _ | refine Acc.setCell ?_ ?_ _) | (refine leB ?_; omega)))))).mono ?_
             rintro e W8 ⟨rfl, hb⟩
             obtain ⟨Ba, Bc, Bo, Bw, Bn, Bm, Bg⟩ : Blk W8 (W0.heap.size) [.int .i64 x1, .int .i64 x2, .int .i64 x3, .int .i64 y1, .int .i64 y2, .int .i64 y3] ∧ Blk W8 (W0.heap.size + 1) [.int .i64 0, .int .i64 c2, .int .i64 c3] ∧ Blk W8 (W1.heap.size) [.int .i64 u1, .int .i64 u2, .int .i64 u3, .int .i64 v1, .int .i64 v2, .int .i64 v3] ∧ Blk W8 (W2.heap.size) [.int .i64 u1, .int .i64 u2, .int .i64 u3, .int .i64 v1, .int .i64 v2, .int .i64 v3] ∧ Blk W8 (W5.heap.size) [.int .i64 n1, .int .i64 n2, .int .i64 n3] ∧ Blk W8 (W6.heap.size) [.int .i64 m1, .int .i64 m2, .int .i64 m3] ∧ Blk W8 (W7.heap.size) [.int .i64 g1, .int .i64 g2, .int .i64 g3] := by
               refine ⟨?_, ?_, ?_, ?_, ?_, ?_, ?_⟩ <;> refine Blk.keep hb ?_ <;> (repeat' (first | (with_reducible first | assumption | apply Blk.set | (refine Blk.new ?_; focus (first | rfl | (simp; done))) | refine Blk.alloc ?_ _ | refine Blk.other ?_ ?_ _) | exact eqL rfl | (refine neB ?_; omega)))
             have ca := Ba.cell
             have fa := Ba.free
             have la_W8 := Ba.lt
             have cc := Bc.cell
             have fc := Bc.free
             have lc_W8 := Bc.lt
             have co := Bo.cell
             have fo := Bo.free
             have lo_W8 := Bo.lt
             have cw := Bw.cell
             have fw := Bw.free
             have lw_W8 := Bw.lt
             have cn := Bn.cell
             have fn := Bn.free
             have ln_W8 := Bn.lt
             have cm := Bm.cell
             have fm := Bm.free
             have lm_W8 := Bm.lt
             have cg := Bg.cell
             have fg := Bg.free
             have lg_W8 := Bg.lt
             have kaW8 : Acc w W8 := by
               refine Acc.call ?_ hb
               (repeat' (first | (with_reducible first | assumption | exact Acc.refl _ | refine Acc.alloc ?_ _ | refine Acc.setCell ?_ ?_ _) | (refine leB ?_; omega)))
             clear hb
             go_wp2_with fail
             refine (valid_at HA.out (implJAlike_any x1 x2 x3 y1 y2 y3 u1 u2 u3 v1 v2 v3 hx1 hx2 hx3 hy1 hy2 hy3 hu1 hu2 hu3 hv1 hv2 hv3 _ (HL.out _ (by repeat' (first | (with_reducible first | assumption | exact Acc.refl _ | refine Acc.alloc ?_ _ | refine Acc.setCell ?_ ?_ _) | (refine leB ?_; omega)))))).mono ?_
             rintro e W9 ⟨rfl, hb⟩
             obtain ⟨Ba, Bc, Bo, Bw, Bn, Bm, Bg, Bt⟩ : Blk W9 (W0.heap.size) [.int .i64 x1, .int .i64 x2, .int .i64 x3, .int .i64 y1, .int .i64 y2, .int .i64 y3] ∧ Blk W9 (W0.heap.size + 1) [.int .i64 0, .int .i64 c2, .int .i64 c3] ∧ Blk W9 (W1.heap.size) [.int .i64 u1, .int .i64 u2, .int .i64 u3, .int .i64 v1, .int .i64 v2, .int .i64 v3] ∧ Blk W9 (W2.heap.size) [.int .i64 u1, .int .i64 u2, .int .i64 u3, .int .i64 v1, .int .i64 v2, .int .i64 v3] ∧ Blk W9 (W5.heap.size) [.int .i64 n1, .int .i64 n2, .int .i64 n3] ∧ Blk W9 (W6.heap.size) [.int .i64 m1, .int .i64 m2, .int .i64 m3] ∧ Blk W9 (W7.heap.size) [.int .i64 g1, .int .i64 g2, .int .i64 g3] ∧ Blk W9 (W8.heap.size) [.int .i64 0, .int .i64 0, .int .i64 0] := by
               refine ⟨?_, ?_, ?_, ?_, ?_, ?_, ?_, ?_⟩ <;> refine Blk.keep hb ?_ <;> (repeat' (first | (with_reducible first | assumption | apply Blk.set | (refine Blk.new ?_; focus (first | rfl | (simp; done))) | refine Blk.alloc ?_ _ | refine Blk.other ?_ ?_ _) | exact eqL rfl | (refine neB ?_; omega)))
             have ca := Ba.cell
             have fa := Ba.free
             have la_W9 := Ba.lt
             have cc := Bc.cell
             have fc := Bc.free
             have lc_W9 := Bc.lt
             have co := Bo.cell
             have fo := Bo.free
             have lo_W9 := Bo.lt
             have cw := Bw.cell
             have fw := Bw.free
             have lw_W9 := Bw.lt
             have cn := Bn.cell
             have fn := Bn.free
             have ln_W9 := Bn.lt
             have cm := Bm.cell
             have fm := Bm.free
             have lm_W9 := Bm.lt
             have cg := Bg.cell
             have fg := Bg.free
             have lg_W9 := Bg.lt
             have ct := Bt.cell
             have ft := Bt.free
             have lt_W9 := Bt.lt
             have kaW9 : Acc w W9 := by
               refine Acc.call ?_ hb
               (repeat' (first | (with_reducible first | assumption | exact Acc.refl _ | refine Acc.alloc ?_ _ | refine Acc.setCell ?_ ?_ _) | (refine leB ?_; omega)))
             clear hb
             go_wp2_with fail
             all_goals
               go_ret
               refine ⟨by first | rfl | (simp [*]; done) | (simp [go_sem, *]; done), ?_⟩
               show Acc w _
               (repeat' (first | (with_reducible first | assumption | exact Acc.refl _ | refine Acc.alloc ?_ _ | refine Acc.setCell ?_ ?_ _) | (refine leB ?_; omega)))
            | some v =>
             obtain ⟨t1, t2, t3⟩ := v
             obtain ⟨ht1, ht2, ht3⟩ := okF_i64 (times_ok ht)
             have HT := Lib.hid ht
             clear ht
             refine (gave_some HT.out (implTimes_any m1 m2 m3 g1 g2 g3 hm1 hm2 hm3 hg1 hg2 hg3 _ (HL.out _ (by repeat' (first | (with_reducible first | assumption | exact Acc.refl _ | refine Acc.alloc ?_ _ | refine Acc.setCell ?_ ?_ _) | (refine leB ?_; omega)))))).mono ?_
             rintro e W8 ⟨rfl, hb⟩
             obtain ⟨Ba, Bc, Bo, Bw, Bn, Bm, Bg⟩ : Blk W8 (W0.heap.size) [.int .i64 x1, .int .i64 x2, .int .i64 x3, .int .i64 y1, .int .i64 y2, .int .i64 y3] ∧ Blk W8 (W0.heap.size + 1) [.int .i64 0, .int .i64 c2, .int .i64 c3] ∧ Blk W8 (W1.heap.size) [.int .i64 u1, .int .i64 u2, .int .i64 u3, .int .i64 v1, .int .i64 v2, .int .i64 v3] ∧ Blk W8 (W2.heap.size) [.int .i64 u1, .int .i64 u2, .int .i64 u3, .int .i64 v1, .int .i64 v2, .int .i64 v3] ∧ Blk W8 (W5.heap.size) [.int .i64 n1, .int .i64 n2, .int .i64 n3] ∧ Blk W8 (W6.heap.size) [.int .i64 m1, .int .i64 m2, .int .i64 m3] ∧ Blk W8 (W7.heap.size) [.int .i64 g1, .int .i64 g2, .int .i64 g3] := by
               refine ⟨?_, ?_, ?_, ?_, ?_, ?_, ?_⟩ <;> refine Blk.keep hb ?_ <;> (repeat' (first | (with_reducible first | assumption | apply Blk.set | (refine Blk.new ?_; focus (first | rfl | (simp; done))) | refine Blk.alloc ?_ _ | refine Blk.other ?_ ?_ _) | exact eqL rfl | (refine neB ?_; omega)))
             have ca := Ba.cell
             have fa := Ba.free
             have la_W8 := Ba.lt
             have cc := Bc.cell
             have fc := Bc.free
             have lc_W8 := Bc.lt
             have co := Bo.cell
             have fo := Bo.free
             have lo_W8 := Bo.lt
             have cw := Bw.cell
             have fw := Bw.free
             have lw_W8 := Bw.lt
             have cn := Bn.cell
             have fn := Bn.free
             have ln_W8 := Bn.lt
             have cm := Bm.cell
             have fm := Bm.free
             have lm_W8 := Bm.lt
             have cg := Bg.cell
             have fg := Bg.free
             have lg_W8 := Bg.lt
             have kaW8 : Acc w W8 := by
               refine Acc.call ?_ hb
               (repeat' (first | (with_reducible first | assumption | exact Acc.refl _ | refine Acc.alloc ?_ _ | refine Acc.setCell ?_ ?_ _) | (refine leB ?_; omega)))
             clear hb
             go_wp2_with fail
             refine (valid_at HA.out (implJAlike_any x1 x2 x3 y1 y2 y3 u1 u2 u3 v1 v2 v3 hx1 hx2 hx3 hy1 hy2 hy3 hu1 hu2 hu3 hv1 hv2 hv3 _ (HL.out _ (by repeat' (first | (with_reducible first | assumption | exact Acc.refl _ | refine Acc.alloc ?_ _ | refine Acc.setCell ?_ ?_ _) | (refine leB ?_; omega)))))).mono ?_
             rintro e W9 ⟨rfl, hb⟩
             obtain ⟨Ba, Bc, Bo, Bw, Bn, Bm, Bg, Bt⟩ : Blk W9 (W0.heap.size) [.int .i64 x1, .int .i64 x2, .int .i64 x3, .int .i64 y1, .int .i64 y2, .int .i64 y3] ∧ Blk W9 (W0.heap.size + 1) [.int .i64 0, .int .i64 c2, .int .i64 c3] ∧ Blk W9 (W1.heap.size) [.int .i64 u1, .int .i64 u2, .int .i64 u3, .int .i64 v1, .int .i64 v2, .int .i64 v3] ∧ Blk W9 (W2.heap.size) [.int .i64 u1, .int .i64 u2, .int .i64 u3, .int .i64 v1, .int .i64 v2, .int .i64 v3] ∧ Blk W9 (W5.heap.size) [.int .i64 n1, .int .i64 n2, .int .i64 n3] ∧ Blk W9 (W6.heap.size) [.int .i64 m1, .int .i64 m2, .int .i64 m3] ∧ Blk W9 (W7.heap.size) [.int .i64 g1, .int .i64 g2, .int .i64 g3] ∧ Blk W9 (W8.heap.size) [.int .i64 t1, .int .i64 t2, .int .i64 t3] := by
               refine ⟨?_, ?_, ?_, ?_, ?_, ?_, ?_, ?_⟩ <;> refine Blk.keep hb ?_ <;> (repeat' (first | (with_reducible first | assumption | apply Blk.set | (refine Blk.new ?_; focus (first | rfl | (simp; done))) | refine Blk.alloc ?_ _ | refine Blk.other ?_ ?_ _) | exact eqL rfl | (refine neB ?_; omega)))
             have ca := Ba.cell
             have fa := Ba.free
             have la_W9 := Ba.lt
             have cc := Bc.cell
             have fc := Bc.free
             have lc_W9 := Bc.lt
             have co := Bo.cell
             have fo := Bo.free
             have lo_W9 := Bo.lt
             have cw := Bw.cell
             have fw := Bw.free
             have lw_W9 := Bw.lt
             have cn := Bn.cell
             have fn := Bn.free
             have ln_W9 := Bn.lt
             have cm := Bm.cell
             have fm := Bm.free
             have lm_W9 := Bm.lt
             have cg := Bg.cell
             have fg := Bg.free
             have lg_W9 := Bg.lt
             have ct := Bt.cell
             have ft := Bt.free
             have lt_W9 := Bt.lt
             have kaW9 : Acc w W9 := by
               refine Acc.call ?_ hb
               (repeat' (first | (with_reducible first | assumption | exact Acc.refl _ | refine Acc.alloc ?_ _ | refine Acc.setCell ?_ ?_ _) | (refine leB ?_; omega)))
             clear hb
             go_wp2_with fail
             all_goals obtain ⟨⟩ := times_power HO.out HN.out HM.out HG.out HT.out
             all_goals try exact absurd rfl (by assumption)
             all_goals
               go_ret
               refine ⟨by first | rfl | (simp [*]; done) | (simp [go_sem, *]; done), ?_⟩
               show Acc w _
               (repeat' (first | (with_reducible first | assumption | exact Acc.refl _ | refine Acc.alloc ?_ _ | refine Acc.setCell ?_ ?_ _) | (refine leB ?_; omega)))
  · skip
    cases ho : jtimesF x1 x2 x3 y1 y2 y3 c1 c2 c3 with
    | none =>
     have HO := Lib.hid ho
     clear ho
     refine (gave6_none HO.out (implJTimes_any x1 x2 x3 y1 y2 y3 c1 c2 c3 hx1 hx2 hx3 hy1 hy2 hy3 hc1 hc2 hc3 _ (HL.out _ (by repeat' (first | (with_reducible first | assumption | exact Acc.refl _ | refine Acc.alloc ?_ _ | refine Acc.setCell ?_ ?_ _) | (refine leB ?_; omega)))))).mono ?_
     rintro e W1 ⟨rfl, hb⟩
     obtain ⟨Ba, Bc⟩ : Blk W1 (W0.heap.size) [.int .i64 x1, .int .i64 x2, .int .i64 x3, .int .i64 y1, .int .i64 y2, .int .i64 y3] ∧ Blk W1 (W0.heap.size + 1) [.int .i64 c1, .int .i64 c2, .int .i64 c3] := by
       refine ⟨?_, ?_⟩ <;> refine Blk.keep hb ?_ <;> (repeat' (first | (with_reducible first | assumption | apply Blk.set | (refine Blk.new ?_; focus (first | rfl | (simp; done))) | refine Blk.alloc ?_ _ | refine Blk.other ?_ ?_ _) | exact eqL rfl | (refine neB ?_; omega)))
     have ca := Ba.cell
     have fa := Ba.free
     have la_W1 := Ba.lt
     have cc := Bc.cell
     have fc := Bc.free
     have lc_W1 := Bc.lt
     have kaW1 : Acc w W1 := by
       refine Acc.call ?_ hb
       (repeat' (first | (with_reducible first | assumption | exact Acc.refl _ | refine Acc.alloc ?_ _ | refine Acc.setCell ?_ ?_ _) | (refine leB ?_; omega)))
     clear hb
     go_wp2_with fail
     refine (gave6_none HO.out (specJTimes_any x1 x2 x3 y1 y2 y3 c1 c2 c3 _)).mono ?_
     rintro e W2 ⟨rfl, hb⟩
     obtain ⟨Ba, Bc, Bo⟩ : Blk W2 (W0.heap.size) [.int .i64 x1, .int .i64 x2, .int .i64 x3, .int .i64 y1, .int .i64 y2, .int .i64 y3] ∧ Blk W2 (W0.heap.size + 1) [.int .i64 c1, .int .i64 c2, .int .i64 c3] ∧ Blk W2 (W1.heap.size) [.int .i64 0, .int .i64 0, .int .i64 0, .int .i64 0, .int .i64 0, .int .i64 0] := by
       refine ⟨?_, ?_, ?_⟩ <;> refine Blk.keep hb ?_ <;> (repeat' (first | (with_reducible first | assumption | apply Blk.set | (refine Blk.new ?_; focus (first | rfl | (simp; done))) | refine Blk.alloc ?_ _ | refine Blk.other ?_ ?_ _) | exact eqL rfl | (refine neB ?_; omega)))
     have ca := Ba.cell
     have fa := Ba.free
     have la_W2 := Ba.lt
     have cc := Bc.cell
     have fc := Bc.free
     have lc_W2 := Bc.lt
     have co := Bo.cell
     have fo := Bo.free
     have lo_W2 := Bo.lt
     have kaW2 : Acc w W2 := by
       refine Acc.call ?_ hb
       (repeat' (first | (with_reducible first | assumption | exact Acc.refl _ | refine Acc.alloc ?_ _ | refine Acc.setCell ?_ ?_ _) | (refine leB ?_; omega)))
     clear hb
     go_wp2_with fail
     go_ret
     refine ⟨rfl, ?_⟩
     show Acc w _
     (repeat' (first | (with_reducible first | assumption | exact Acc.refl _ | refine Acc.alloc ?_ _ | refine Acc.setCell ?_ ?_ _) | (refine leB ?_; omega)))
    | some v =>
     obtain ⟨⟨u1, u2, u3⟩, v1, v2, v3⟩ := v
     obtain ⟨hu1, hu2, hu3⟩ := okF_i64 (jtimes_ok ho).1
     obtain ⟨hv1, hv2, hv3⟩ := okF_i64 (jtimes_ok ho).2
     have HO := Lib.hid ho
     clear ho
     refine (gave6_some HO.out (implJTimes_any x1 x2 x3 y1 y2 y3 c1 c2 c3 hx1 hx2 hx3 hy1 hy2 hy3 hc1 hc2 hc3 _ (HL.out _ (by repeat' (first | (with_reducible first | assumption | exact Acc.refl _ | refine Acc.alloc ?_ _ | refine Acc.setCell ?_ ?_ _) | (refine leB ?_; omega)))))).mono ?_
     rintro e W1 ⟨rfl, hb⟩
     obtain ⟨Ba, Bc⟩ : Blk W1 (W0.heap.size) [.int .i64 x1, .int .i64 x2, .int .i64 x3, .int .i64 y1, .int .i64 y2, .int .i64 y3] ∧ Blk W1 (W0.heap.size + 1) [.int .i64 c1, .int .i64 c2, .int .i64 c3] := by
       refine ⟨?_, ?_⟩ <;> refine Blk.keep hb ?_ <;> (repeat' (first | (with_reducible first | assumption | apply Blk.set | (refine Blk.new ?_; focus (first | rfl | (simp; done))) | refine Blk.alloc ?_ _ | refine Blk.other ?_ ?_ _) | exact eqL rfl | (refine neB ?_; omega)))
     have ca := Ba.cell
     have fa := Ba.free
     have la_W1 := Ba.lt
     have cc := Bc.cell
     have fc := Bc.free
     have lc_W1 := Bc.lt
     have kaW1 : Acc w W1 := by
       refine Acc.call ?_ hb
       (repeat' (first | (with_reducible first | assumption | exact Acc.refl _ | refine Acc.alloc ?_ _ | refine Acc.setCell ?_ ?_ _) | (refine leB ?_; omega)))
     clear hb
     go_wp2_with fail
     refine (gave6_some HO.out (specJTimes_any x1 x2 x3 y1 y2 y3 c1 c2 c3 _)).mono ?_
     rintro e W2 ⟨rfl, hb⟩
     obtain ⟨Ba, Bc, Bo⟩ : Blk W2 (W0.heap.size) [.int .i64 x1, .int .i64 x2, .int .i64 x3, .int .i64 y1, .int .i64 y2, .int .i64 y3] ∧ Blk W2 (W0.heap.size + 1) [.int .i64 c1, .int .i64 c2, .int .i64 c3] ∧ Blk W2 (W1.heap.size) [.int .i64 u1, .int .i64 u2, .int .i64 u3, .int .i64 v1, .int .i64 v2, .int .i64 v3] := by
       refine ⟨?_, ?_, ?_⟩ <;> refine Blk.keep hb ?_ <;> (repeat' (first | (with_reducible first | assumption | apply Blk.set | (refine Blk.new ?_; focus (first | rfl | (simp; done))) | refine Blk.alloc ?_ _ | refine Blk.other ?_ ?_ _) | exact eqL rfl | (refine neB ?_; omega)))
     have ca := Ba.cell
     have fa := Ba.free
     have la_W2 := Ba.lt
     have cc := Bc.cell
     have fc := Bc.free
     have lc_W2 := Bc.lt
     have co := Bo.cell
     have fo := Bo.free
     have lo_W2 := Bo.lt
     have kaW2 : Acc w W2 := by
       refine Acc.call ?_ hb
       (repeat' (first | (with_reducible first | assumption | exact Acc.refl _ | refine Acc.alloc ?_ _ | refine Acc.setCell ?_ ?_ _) | (refine leB ?_; omega)))
     clear hb
     go_wp2_with fail
     cases ht : timesF x1 x2 x3 v1 v2 v3 with
     | none =>
      have HP := Lib.hid ht
      clear ht
      refine (gave_none HP.out (implTimes_any x1 x2 x3 v1 v2 v3 hx1 hx2 hx3 hv1 hv2 hv3 _ (HL.out _ (by repeat' (first | (with_reducible first | assumption | exact Acc.refl _ | refine Acc.alloc ?_ _ | refine Acc.setCell ?_ ?_ _) | (refine leB ?_; omega)))))).mono ?_
      rintro e W3 ⟨rfl, hb⟩
      obtain ⟨Ba, Bc, Bo, Bw⟩ : Blk W3 (W0.heap.size) [.int .i64 x1, .int .i64 x2, .int .i64 x3, .int .i64 y1, .int .i64 y2, .int .i64 y3] ∧ Blk W3 (W0.heap.size + 1) [.int .i64 c1, .int .i64 c2, .int .i64 c3] ∧ Blk W3 (W1.heap.size) [.int .i64 u1, .int .i64 u2, .int .i64 u3, .int .i64 v1, .int .i64 v2, .int .i64 v3] ∧ Blk W3 (W2.heap.size) [.int .i64 u1, .int .i64 u2, .int .i64 u3, .int .i64 v1, .int .i64 v2, .int .i64 v3] := by
        refine ⟨?_, ?_, ?_, ?_⟩ <;> refine Blk.keep hb ?_ <;> (repeat' (first | (with_reducible first | assumption | apply Blk.set | (refine Blk.new ?_; focus (first | rfl | (simp; done))) | refine Blk.alloc ?_ _ | refine Blk.other ?_ ?_ _) | exact eqL rfl | (refine neB ?_; omega)))
      have ca := Ba.cell
      have fa := Ba.free
      have la_W3 := Ba.lt
      have cc := Bc.cell
      have fc := Bc.free
      have lc_W3 := Bc.lt
      have co := Bo.cell
      have fo := Bo.free
      have lo_W3 := Bo.lt
      have cw := Bw.cell
      have fw := Bw.free
      have lw_W3 := Bw.lt
      have kaW3 : Acc w W3 := by
        refine Acc.call ?_ hb
        (repeat' (first | (with_reducible first | assumption | exact Acc.refl _ | refine Acc.alloc ?_ _ | refine Acc.setCell ?_ ?_ _) | (refine leB ?_; omega)))
      clear hb
      go_wp2_with fail
      obtain ⟨⟨q1, q2, q3⟩, hv⟩ : ∃ o, partsR (timesF y1 y2 y3 u1 u2 u3) = o := ⟨_, rfl⟩
      obtain ⟨kq, hk⟩ : ∃ k, okR (timesF y1 y2 y3 u1 u2 u3) = k := ⟨_, rfl⟩
      obtain ⟨hq1, hq2, hq3⟩ := parts_i64 (fun _ _ _ h => times_ok h) hv
      have HV := Lib.hid hv
      have HK := Lib.hid hk
      clear hv hk
      refine (gave_any HV.out HK.out (implTimes_any y1 y2 y3 u1 u2 u3 hy1 hy2 hy3 hu1 hu2 hu3 _ (HL.out _ (by repeat' (first | (with_reducible first | assumption | exact Acc.refl _ | refine Acc.alloc ?_ _ | refine Acc.setCell ?_ ?_ _) | (refine leB ?_; omega)))))).mono ?_
      rintro e W4 ⟨rfl, hb⟩
      obtain ⟨Ba, Bc, Bo, Bw⟩ : Blk W4 (W0.heap.size) [.int .i64 x1, .int .i64 x2, .int .i64 x3, .int .i64 y1, .int .i64 y2, .int .i64 y3] ∧ Blk W4 (W0.heap.size + 1) [.int .i64 c1, .int .i64 c2, .int .i64 c3] ∧ Blk W4 (W1.heap.size) [.int .i64 u1, .int .i64 u2, .int .i64 u3, .int .i64 v1, .int .i64 v2, .int .i64 v3] ∧ Blk W4 (W2.heap.size) [.int .i64 u1, .int .i64 u2, .int .i64 u3, .int .i64 v1, .int .i64 v2, .int .i64 v3] := by
        refine ⟨?_, ?_, ?_, ?_⟩ <;> refine Blk.keep hb ?_ <;> (repeat' (first | (with_reducible first | assumption | apply Blk.set | (refine Blk.new ?_; focus (first | rfl | (simp; done))) | refine Blk.alloc ?_ _ | refine Blk.other ?_ ?_ _) | exact eqL rfl | (refine neB ?_; omega)))
      have ca := Ba.cell
      have fa := Ba.free
      have la_W4 := Ba.lt
      have cc := Bc.cell
      have fc := Bc.free
      have lc_W4 := Bc.lt
      have co := Bo.cell
      have fo := Bo.free
      have lo_W4 := Bo.lt
      have cw := Bw.cell
      have fw := Bw.free
      have lw_W4 := Bw.lt
      have kaW4 : Acc w W4 := by
        refine Acc.call ?_ hb
        (repeat' (first | (with_reducible first | assumption | exact Acc.refl _ | refine Acc.alloc ?_ _ | refine Acc.setCell ?_ ?_ _) | (refine leB ?_; omega)))
      clear hb
      go_wp2_with fail
      cases ht : jpowF u1 u2 u3 v1 v2 v3 with
      | none =>
       have HN := Lib.hid ht
       clear ht
       refine (gave_none HN.out (implJPower_any u1 u2 u3 v1 v2 v3 hu1 hu2 hu3 hv1 hv2 hv3 _ (HL.out _ (by repeat' (first | (with_reducible first | assumption | exact Acc.refl _ | refine Acc.alloc ?_ _ | refine Acc.setCell ?_ ?_ _) | (refine leB ?_; omega)))))).mono ?_
       rintro e W5 ⟨rfl, hb⟩
       obtain ⟨Ba, Bc, Bo, Bw⟩ : Blk W5 (W0.heap.size) [.int .i64 x1, .int .i64 x2, .int .i64 x3, .int .i64 y1, .int .i64 y2, .int .i64 y3] ∧ Blk W5 (W0.heap.size + 1) [.int .i64 c1, .int .i64 c2, .int .i64 c3] ∧ Blk W5 (W1.heap.size) [.int .i64 u1, .int .i64 u2, .int .i64 u3, .int .i64 v1, .int .i64 v2, .int .i64 v3] ∧ Blk W5 (W2.heap.size) [.int .i64 u1, .int .i64 u2, .int .i64 u3, .int .i64 v1, .int .i64 v2, .int .i64 v3] := by
         refine ⟨?_, ?_, ?_, ?_⟩ <;> refine Blk.keep hb ?_ <;> (repeat' (first | (with_reducible first | assumption | apply Blk.set | (refine Blk.new ?_; focus (first | rfl | (simp; done))) | refine Blk.alloc ?_ _ | refine Blk.other ?_ ?_ _) | exact eqL rfl | (refine neB ?_; omega)))
       have ca := Ba.cell
       have fa := Ba.free
       have la_W5 := Ba.lt
       have cc := Bc.cell
       have fc := Bc.free
       have lc_W5 := Bc.lt
       have co := Bo.cell
       have fo := Bo.free
       have lo_W5 := Bo.lt
       have cw := Bw.cell
       have fw := Bw.free
       have lw_W5 := Bw.lt
       have kaW5 : Acc w W5 := by
         refine Acc.call ?_ hb
         (repeat' (first | (with_reducible first | assumption | exact Acc.refl _ | refine Acc.alloc ?_ _ | refine Acc.setCell ?_ ?_ _) | (refine leB ?_; omega)))
       clear hb
       go_wp2_with fail
       obtain ⟨⟨m1, m2, m3⟩, hv⟩ : ∃ o, partsR (jpowF x1 x2 x3 y1 y2 y3) = o := ⟨_, rfl⟩
       obtain ⟨km, hk⟩ : ∃ k, okR (jpowF x1 x2 x3 y1 y2 y3) = k := ⟨_, rfl⟩
       obtain ⟨hm1, hm2, hm3⟩ := parts_i64 (fun _ _ _ h => jpow_ok h) hv
       have HV := Lib.hid hv
       have HK := Lib.hid hk
       clear hv hk
       refine (gave_any HV.out HK.out (implJPower_any x1 x2 x3 y1 y2 y3 hx1 hx2 hx3 hy1 hy2 hy3 _ (HL.out _ (by repeat' (first | (with_reducible first | assumption | exact Acc.refl _ | refine Acc.alloc ?_ _ | refine Acc.setCell ?_ ?_ _) | (refine leB ?_; omega)))))).mono ?_
       rintro e W6 ⟨rfl, hb⟩
       obtain ⟨Ba, Bc, Bo, Bw, Bn⟩ : Blk W6 (W0.heap.size) [.int .i64 x1, .int .i64 x2, .int .i64 x3, .int .i64 y1, .int .i64 y2, .int .i64 y3] ∧ Blk W6 (W0.heap.size + 1) [.int .i64 c1, .int .i64 c2, .int .i64 c3] ∧ Blk W6 (W1.heap.size) [.int .i64 u1, .int .i64 u2, .int .i64 u3, .int .i64 v1, .int .i64 v2, .int .i64 v3] ∧ Blk W6 (W2.heap.size) [.int .i64 u1, .int .i64 u2, .int .i64 u3, .int .i64 v1, .int .i64 v2, .int .i64 v3] ∧ Blk W6 (W5.heap.size) [.int .i64 0, .int .i64 0, .int .i64 0] := by
         refine ⟨?_, ?_, ?_, ?_, ?_⟩ <;> refine Blk.keep hb ?_ <;> (repeat' (first | (with_reducible first | assumption | apply Blk.set | (refine Blk.new ?_; focus (first | rfl | (simp; done))) | refine Blk.alloc ?_ _ | refine Blk.other ?_ ?_ _) | exact eqL rfl | (refine neB ?_; omega)))
       have ca := Ba.cell
       have fa := Ba.free
       have la_W6 := Ba.lt
       have cc := Bc.cell
       have fc := Bc.free
       have lc_W6 := Bc.lt
       have co := Bo.cell
       have fo := Bo.free
       have lo_W6 := Bo.lt
       have cw := Bw.cell
       have fw := Bw.free
       have lw_W6 := Bw.lt
       have cn := Bn.cell
       have fn := Bn.free
       have ln_W6 := Bn.lt
       have kaW6 : Acc w W6 := by
         refine Acc.call ?_ hb
         (repeat' (first | (with_reducible first | assumption | exact Acc.refl _ | refine Acc.alloc ?_ _ | refine Acc.setCell ?_ ?_ _) | (refine leB ?_; omega)))
       clear hb
       go_wp2_with fail
       obtain ⟨⟨g1, g2, g3⟩, hv⟩ : ∃ o, partsR (powerF c1 c2 c3) = o := ⟨_, rfl⟩
       obtain ⟨kg, hk⟩ : ∃ k, okR (powerF c1 c2 c3) = k := ⟨_, rfl⟩
       obtain ⟨hg1, hg2, hg3⟩ := parts_i64 (fun _ _ _ h => power_ok h) hv
       have HV := Lib.hid hv
       have HK := Lib.hid hk
       clear hv hk
       refine (gave_any HV.out HK.out (implPower_any c1 c2 c3 hc1 hc2 hc3 _ (HL.out _ (by repeat' (first | (with_reducible first | assumption | exact Acc.refl _ | refine Acc.alloc ?_ _ | refine Acc.setCell ?_ ?_ _) | (refine leB ?_; omega)))))).mono ?_
       rintro e W7 ⟨rfl, hb⟩
       obtain ⟨Ba, Bc, Bo, Bw, Bn, Bm⟩ : Blk W7 (W0.heap.size) [.int .i64 x1, .int .i64 x2, .int .i64 x3, .int .i64 y1, .int .i64 y2, .int .i64 y3] ∧ Blk W7 (W0.heap.size + 1) [.int .i64 c1, .int .i64 c2, .int .i64 c3] ∧ Blk W7 (W1.heap.size) [.int .i64 u1, .int .i64 u2, .int .i64 u3, .int .i64 v1, .int .i64 v2, .int .i64 v3] ∧ Blk W7 (W2.heap.size) [.int .i64 u1, .int .i64 u2, .int .i64 u3, .int .i64 v1, .int .i64 v2, .int .i64 v3] ∧ Blk W7 (W5.heap.size) [.int .i64 0, .int .i64 0, .int .i64 0] ∧ Blk W7 (W6.heap.size) [.int .i64 m1, .int .i64 m2, .int .i64 m3] := by
         refine ⟨?_, ?_, ?_, ?_, ?_, ?_⟩ <;> refine Blk.keep hb ?_ <;> (repeat' (first | (with_reducible first | assumption | apply Blk.set | (refine Blk.new ?_; focus (first | rfl | (simp; done))) | refine Blk.alloc ?_ _ | refine Blk.other ?_ ?_ _) | exact eqL rfl | (refine neB ?_; omega)))
       have ca := Ba.cell
       have fa := Ba.free
       have la_W7 := Ba.lt
       have cc := Bc.cell
       have fc := Bc.free
       have lc_W7 := Bc.lt
       have co := Bo.cell
       have fo := Bo.free
       have lo_W7 := Bo.lt
       have cw := Bw.cell
       have fw := Bw.free
       have lw_W7 := Bw.lt
       have cn := Bn.cell
       have fn := Bn.free
       have ln_W7 := Bn.lt
       have cm := Bm.cell
       have fm := Bm.free
       have lm_W7 := Bm.lt
       have kaW7 : Acc w W7 := by
         refine Acc.call ?_ hb
         (repeat' (first | (with_reducible first | assumption | exact Acc.refl _ | refine Acc.alloc ?_ _ | refine Acc.setCell ?_ ?_ _) | (refine leB ?_; omega)))
       clear hb
       go_wp2_with fail
       obtain ⟨⟨t1, t2, t3⟩, hv⟩ : ∃ o, partsR (timesF m1 m2 m3 g1 g2 g3) = o := ⟨_, rfl⟩
       obtain ⟨kt, hk⟩ : ∃ k, okR (timesF m1 m2 m3 g1 g2 g3) = k := ⟨_, rfl⟩
       obtain ⟨ht1, ht2, ht3⟩ := parts_i64 (fun _ _ _ h => times_ok h) hv
       have HV := Lib.hid hv
       have HK := Lib.hid hk
       clear hv hk
       refine (gave_any HV.out HK.out (implTimes_any m1 m2 m3 g1 g2 g3 hm1 hm2 hm3 hg1 hg2 hg3 _ (HL.out _ (by repeat' (first | (with_reducible first | assumption | exact Acc.refl _ | refine Acc.alloc ?_ _ | refine Acc.setCell ?_ ?_ _) | (refine leB ?_; omega)))))).mono ?_
       rintro e W8 ⟨rfl, hb⟩
       obtain ⟨Ba, Bc, Bo, Bw, Bn, Bm, Bg⟩ : Blk W8 (W0.heap.size) [.int .i64 x1, .int .i64 x2, .int .i64 x3, .int .i64 y1, .int .i64 y2, .int .i64 y3] ∧ Blk W8 (W0.heap.size + 1) [.int .i64 c1, .int .i64 c2, .int .i64 c3] ∧ Blk W8 (W1.heap.size) [.int .i64 u1, .int .i64 u2, .int .i64 u3, .int .i64 v1, .int .i64 v2, .int .i64 v3] ∧ Blk W8 (W2.heap.size) [.int .i64 u1, .int .i64 u2, .int .i64 u3, .int .i64 v1, .int .i64 v2, .int .i64 v3] ∧ Blk W8 (W5.heap.size) [.int .i64 0, .int .i64 0, .int .i64 0] ∧ Blk W8 (W6.heap.size) [.int .i64 m1, .int .i64 m2, .int .i64 m3] ∧ Blk W8 (W7.heap.size) [.int .i64 g1, .int .i64 g2, .int .i64 g3] := by
         refine ⟨?_, ?_, ?_, ?_, ?_, ?_, ?_⟩ <;> refine Blk.keep hb ?_ <;> (repeat' (first | (with_reducible first | assumption | apply Blk.set | (refine Blk.new ?_; focus (first | rfl | (simp; done))) | refine Blk.alloc ?_ _ | refine Blk.other ?_ ?_ _) | exact eqL rfl | (refine neB ?_; omega)))
       have ca := Ba.cell
       have fa := Ba.free
       have la_W8 := Ba.lt
       have cc := Bc.cell
       have fc := Bc.free
       have lc_W8 := Bc.lt
       have co := Bo.cell
       have fo := Bo.free
       have lo_W8 := Bo.lt
       have cw := Bw.cell
       have fw := Bw.free
       have lw_W8 := Bw.lt
       have cn := Bn.cell
       have fn := Bn.free
       have ln_W8 := Bn.lt
       have cm := Bm.cell
       have fm := Bm.free
       have lm_W8 := Bm.lt
       have cg := Bg.cell
       have fg := Bg.free
       have lg_W8 := Bg.lt
       have kaW8 : Acc w W8 := by
         refine Acc.call ?_ hb
         (repeat' (first | (with_reducible first | assumption | exact Acc.refl _ | refine Acc.alloc ?_ _ | refine Acc.setCell ?_ ?_ _) | (refine leB ?_; omega)))
       clear hb
       go_wp2_with fail
       all_goals
         go_ret
         refine ⟨by first | rfl | (simp [*]; done) | (simp [go_sem, *]; done), ?_⟩
         show Acc w _
         (repeat' (first | (with_reducible first | assumption | exact Acc.refl _ | refine Acc.alloc ?_ _ | refine Acc.setCell ?_ ?_ _) | (refine leB ?_; omega)))
      | some v =>
       obtain ⟨n1, n2, n3⟩ := v
       obtain ⟨hn1, hn2, hn3⟩ := okF_i64 (jpow_ok ht)
       have HN := Lib.hid ht
       clear ht
       refine (gave_some HN.out (implJPower_any u1 u2 u3 v1 v2 v3 hu1 hu2 hu3 hv1 hv2 hv3 _ (HL.out _ (by repeat' (first | (with_reducible first | assumption | exact Acc.refl _ | refine Acc.alloc ?_ _ | refine Acc.setCell ?_ ?_ _) | (refine leB ?_; omega)))))).mono ?_
       rintro e W5 ⟨rfl, hb⟩
       obtain ⟨Ba, Bc, Bo, Bw⟩ : Blk W5 (W0.heap.size) [.int .i64 x1, .int .i64 x2, .int .i64 x3, .int .i64 y1, .int .i64 y2, .int .i64 y3] ∧ Blk W5 (W0.heap.size + 1) [.int .i64 c1, .int .i64 c2, .int .i64 c3] ∧ Blk W5 (W1.heap.size) [.int .i64 u1, .int .i64 u2, .int .i64 u3, .int .i64 v1, .int .i64 v2, .int .i64 v3] ∧ Blk W5 (W2.heap.size) [.int .i64 u1, .int .i64 u2, .int .i64 u3, .int .i64 v1, .int .i64 v2, .int .i64 v3] := by
         refine ⟨?_, ?_, ?_, ?_⟩ <;> refine Blk.keep hb ?_ <;> (repeat' (first | (with_reducible first | assumption | apply Blk.set | (refine Blk.new ?_; focus (first | rfl | (simp; done))) | refine Blk.alloc ?_ _ | refine Blk.other ?_ ?_ _) | exact eqL rfl | (refine neB ?_; omega)))
       have ca := Ba.cell
       have fa := Ba.free
       have la_W5 := Ba.lt
       have cc := Bc.cell
       have fc := Bc.free
       have lc_W5 := Bc.lt
       have co := Bo.cell
       have fo := Bo.free
       have lo_W5 := Bo.lt
       have cw := Bw.cell
       have fw := Bw.free
       have lw_W5 := Bw.lt
       have kaW5 : Acc w W5 := by
         refine Acc.call ?_ hb
         (repeat' (first | (with_reducible first | assumption | exact Acc.refl _ | refine Acc.alloc ?_ _ | refine Acc.setCell ?_ ?_ _) | (refine leB ?_; omega)))
       clear hb
       go_wp2_with fail
       cases ht : jpowF x1 x2 x3 y1 y2 y3 with
       | none =>
        have HM := Lib.hid ht
        clear ht
        refine (gave_none HM.out (implJPower_any x1 x2 x3 y1 y2 y3 hx1 hx2 hx3 hy1 hy2 hy3 _ (HL.out _ (by repeat' (first | (with_reducible first | assumption | exact Acc.refl _ | refine Acc.alloc ?_ _ | refine Acc.setCell ?_ ?_ _) | (refine leB ?_; omega)))))).mono ?_
        rintro e W6 ⟨rfl, hb⟩
        obtain ⟨Ba, Bc, Bo, Bw, Bn⟩ : Blk W6 (W0.heap.size) [.int .i64 x1, .int .i64 x2, .int .i64 x3, .int .i64 y1, .int .i64 y2, .int .i64 y3] ∧ Blk W6 (W0.heap.size + 1) [.int .i64 c1, .int .i64 c2, .int .i64 c3] ∧ Blk W6 (W1.heap.size) [.int .i64 u1, .int .i64 u2, .int .i64 u3, .int .i64 v1, .int .i64 v2, .int .i64 v3] ∧ Blk W6 (W2.heap.size) [.int .i64 u1, .int .i64 u2, .int .i64 u3, .int .i64 v1, .int .i64 v2, .int .i64 v3] ∧ Blk W6 (W5.heap.size) [.int .i64 n1, .int .i64 n2, .int .i64 n3] := by
          refine ⟨?_, ?_, ?_, ?_, ?_⟩ <;> refine Blk.keep hb ?_ <;> (repeat' (first | (with_reducible first | assumption | apply Blk.set | (refine Blk.new ?_; focus (first | rfl | (simp; done))) | refine Blk.alloc ?_ _ | refine Blk.other ?_ ?_ _) | exact eqL rfl | (refine neB ?_; omega)))
        have ca := Ba.cell
        have fa := Ba.free
        have la_W6 := Ba.lt
        have cc := Bc.cell
        have fc := Bc.free
        have lc_W6 := Bc.lt
        have co := Bo.cell
        have fo := Bo.free
        have lo_W6 := Bo.lt
        have cw := Bw.cell
        have fw := Bw.free
        have lw_W6 := Bw.lt
        have cn := Bn.cell
        have fn := Bn.free
        have ln_W6 := Bn.lt
        have kaW6 : Acc w W6 := by
          refine Acc.call ?_ hb
          (repeat' (first | (with_reducible first | assumption | exact Acc.refl _ | refine Acc.alloc ?_ _ | refine Acc.setCell ?_ ?_ _) | (refine leB ?_; omega)))
        clear hb
        go_wp2_with fail
        obtain ⟨⟨g1, g2, g3⟩, hv⟩ : ∃ o, partsR (powerF c1 c2 c3) = o := ⟨_, rfl⟩
        obtain ⟨kg, hk⟩ : ∃ k, okR (powerF c1 c2 c3) = k := ⟨_, rfl⟩
        obtain ⟨hg1, hg2, hg3⟩ := parts_i64 (fun _ _ _ h => power_ok h) hv
        have HV := Lib.hid hv
        have HK := Lib.hid hk
        clear hv hk
        refine (gave_any HV.out HK.out (implPower_any c1 c2 c3 hc1 hc2 hc3 _ (HL.out _ (by repeat' (first | (with_reducible first | assumption | exact Acc.refl _ | refine Acc.alloc ?_ _ | refine Acc.setCell ?_ ?_ _) | (refine leB ?_; omega)))))).mono ?_
        rintro e W7 ⟨rfl, hb⟩
        obtain ⟨Ba, Bc, Bo, Bw, Bn, Bm⟩ : Blk W7 (W0.heap.size) [.int .i64 x1, .int .i64 x2, .int .i64 x3, .int .i64 y1, .int .i64 y2, .int .i64 y3] ∧ Blk W7 (W0.heap.size + 1) [.int .i64 c1, .int .i64 c2, .int .i64 c3] ∧ Blk W7 (W1.heap.size) [.int .i64 u1, .int .i64 u2, .int .i64 u3, .int .i64 v1, .int .i64 v2, .int .i64 v3] ∧ Blk W7 (W2.heap.size) [.int .i64 u1, .int .i64 u2, .int .i64 u3, .int .i64 v1, .int .i64 v2, .int .i64 v3] ∧ Blk W7 (W5.heap.size) [.int .i64 n1, .int .i64 n2, .int .i64 n3] ∧ Blk W7 (W6.heap.size) [.int .i64 0, .int .i64 0, .int .i64 0] := by
          refine ⟨?_, ?_, ?_, ?_, ?_, ?_⟩ <;> refine Blk.keep hb ?_ <;> (repeat' (first | (with_reducible first | assumption | apply Blk.set | (refine Blk.new ?_; focus (first | rfl | (simp; done))) | refine Blk.alloc ?_ _ | refine Blk.other ?_ ?_ _) | exact eqL rfl | (refine neB ?_; omega)))
        have ca := Ba.cell
        have fa := Ba.free
        have la_W7 := Ba.lt
        have cc := Bc.cell
        have fc := Bc.free
        have lc_W7 := Bc.lt
        have co := Bo.cell
        have fo := Bo.free
        have lo_W7 := Bo.lt
        have cw := Bw.cell
        have fw := Bw.free
        have lw_W7 := Bw.lt
        have cn := Bn.cell
        have fn := Bn.free
        have ln_W7 := Bn.lt
        have cm := Bm.cell
        have fm := Bm.free
        have lm_W7 := Bm.lt
        have kaW7 : Acc w W7 := by
          refine Acc.call ?_ hb
          (repeat' (first | (with_reducible first | assumption | exact Acc.refl _ | refine Acc.alloc ?_ _ | refine Acc.setCell ?_ ?_ _) | (refine leB ?_; omega)))
        clear hb
        go_wp2_with fail
        obtain ⟨⟨t1, t2, t3⟩, hv⟩ : ∃ o, partsR (timesF 0 0 0 g1 g2 g3) = o := ⟨_, rfl⟩
        obtain ⟨kt, hk⟩ : ∃ k, okR (timesF 0 0 0 g1 g2 g3) = k := ⟨_, rfl⟩
        obtain ⟨ht1, ht2, ht3⟩ := parts_i64 (fun _ _ _ h => times_ok h) hv
        have HV := Lib.hid hv
        have HK := Lib.hid hk
        clear hv hk
        refine (gave_any HV.out HK.out (implTimes_any 0 0 0 g1 g2 g3 i64_0 i64_0 i64_0 hg1 hg2 hg3 _ (HL.out _ (by repeat' (first | (with_reducible first | assumption | exact Acc.refl _ | refine Acc.alloc ?_ _ | refine Acc.setCell ?_ ?_ _) | (refine leB ?_; omega)))))).mono ?_
        rintro e W8 ⟨rfl, hb⟩
        obtain ⟨Ba, Bc, Bo, Bw, Bn, Bm, Bg⟩ : Blk W8 (W0.heap.size) [.int .i64 x1, .int .i64 x2, .int .i64 x3, .int .i64 y1, .int .i64 y2, .int .i64 y3] ∧ Blk W8 (W0.heap.size + 1) [.int .i64 c1, .int .i64 c2, .int .i64 c3] ∧ Blk W8 (W1.heap.size) [.int .i64 u1, .int .i64 u2, .int .i64 u3, .int .i64 v1, .int .i64 v2, .int .i64 v3] ∧ Blk W8 (W2.heap.size) [.int .i64 u1, .int .i64 u2, .int .i64 u3, .int .i64 v1, .int .i64 v2, .int .i64 v3] ∧ Blk W8 (W5.heap.size) [.int .i64 n1, .int .i64 n2, .int .i64 n3] ∧ Blk W8 (W6.heap.size) [.int .i64 0, .int .i64 0, .int .i64 0] ∧ Blk W8 (W7.heap.size) [.int .i64 g1, .int .i64 g2, .int .i64 g3] := by
          refine ⟨?_, ?_, ?_, ?_, ?_, ?_, ?_⟩ <;> refine Blk.keep hb ?_ <;> (repeat' (first | (with_reducible first | assumption | apply Blk.set | (refine Blk.new ?_; focus (first | rfl | (simp; done))) | refine Blk.alloc ?_ _ | refine Blk.other ?_ ?_ _) | exact eqL rfl | (refine neB ?_; omega)))
        have ca := Ba.cell
        have fa := Ba.free
        have la_W8 := Ba.lt
        have cc := Bc.cell
        have fc := Bc.free
        have lc_W8 := Bc.lt
        have co := Bo.cell
        have fo := Bo.free
        have lo_W8 := Bo.lt
        have cw := Bw.cell
        have fw := Bw.free
        have lw_W8 := Bw.lt
        have cn := Bn.cell
        have fn := Bn.free
        have ln_W8 := Bn.lt
        have cm := Bm.cell
        have fm := Bm.free
        have lm_W8 := Bm.lt
        have cg := Bg.cell
        have fg := Bg.free
        have lg_W8 := Bg.lt
        have kaW8 : Acc w W8 := by
          refine Acc.call ?_ hb
          (repeat' (first | (with_reducible first | assumption | exact Acc.refl _ | refine Acc.alloc ?_ _ | refine Acc.setCell ?_ ?_ _) | (refine leB ?_; omega)))
        clear hb
        go_wp2_with fail
        all_goals
          go_ret
          refine ⟨by first | rfl | (simp [*]; done) | (simp [go_sem, *]; done), ?_⟩
          show Acc w _
          (repeat' (first | (with_reducible first | assumption | exact Acc.refl _ | refine Acc.alloc ?_ _ | refine Acc.setCell ?_ ?_ _) | (refine leB ?_; omega)))
       | some v =>
        obtain ⟨m1, m2, m3⟩ := v
        obtain ⟨hm1, hm2, hm3⟩ := okF_i64 (jpow_ok ht)
        have HM := Lib.hid ht
        clear ht
        refine (gave_some HM.out (implJPower_any x1 x2 x3 y1 y2 y3 hx1 hx2 hx3 hy1 hy2 hy3 _ (HL.out _ (by repeat' (first | (with_reducible first | assumption | exact Acc.refl _ | refine Acc.alloc ?_ _ | refine Acc.setCell ?_ ?_ _) | (refine leB ?_; omega)))))).mono ?_
        rintro e W6 ⟨rfl, hb⟩
        obtain ⟨Ba, Bc, Bo, Bw, Bn⟩ : Blk W6 (W0.heap.size) [.int .i64 x1, .int .i64 x2, .int .i64 x3, .int .i64 y1, .int .i64 y2, .int .i64 y3] ∧ Blk W6 (W0.heap.size + 1) [.int .i64 c1, .int .i64 c2, .int .i64 c3] ∧ Blk W6 (W1.heap.size) [.int .i64 u1, .int .i64 u2, .int .i64 u3, .int .i64 v1, .int .i64 v2, .int .i64 v3] ∧ Blk W6 (W2.heap.size) [.int .i64 u1, .int .i64 u2, .int .i64 u3, .int .i64 v1, .int .i64 v2, .int .i64 v3] ∧ Blk W6 (W5.heap.size) [.int .i64 n1, .int .i64 n2, .int .i64 n3] := by
          refine ⟨?_, ?_, ?_, ?_, ?_⟩ <;> refine Blk.keep hb ?_ <;> (repeat' (first | (with_reducible first | assumption | apply Blk.set | (refine Blk.new ?_; focus (first | rfl | (simp; done))) | refine Blk.alloc ?_ _ | refine Blk.other ?_ ?_ _) | exact eqL rfl | (refine neB ?_; omega)))
        have ca := Ba.cell
        have fa := Ba.free
        have la_W6 := Ba.lt
        have cc := Bc.cell
        have fc := Bc.free
        have lc_W6 := Bc.lt
        have co := Bo.cell
        have fo := Bo.free
        have lo_W6 := Bo.lt
        have cw := Bw.cell
        have fw := Bw.free
        have lw_W6 := Bw.lt
        have cn := Bn.cell
        have fn := Bn.free
        have ln_W6 := Bn.lt
        have kaW6 : Acc w W6 := by
          refine Acc.call ?_ hb
          (repeat' (first | (with_reducible first | assumption | exact Acc.refl _ | refine Acc.alloc ?_ _ | refine Acc.setCell ?_ ?_ _) | (refine leB ?_; omega)))
        clear hb
        go_wp2_with fail
        cases ht : powerF c1 c2 c3 with
        | none =>
         have HG := Lib.hid ht
         clear ht
         refine (gave_none HG.out (implPower_any c1 c2 c3 hc1 hc2 hc3 _ (HL.out _ (by repeat' (first | (with_reducible first | assumption | exact Acc.refl _ | refine Acc.alloc ?_ _ | refine Acc.setCell ?_ ?_ _) | (refine leB ?_; omega)))))).mono ?_
         rintro e W7 ⟨rfl, hb⟩
         obtain ⟨Ba, Bc, Bo, Bw, Bn, Bm⟩ : Blk W7 (W0.heap.size) [.int .i64 x1, .int .i64 x2, .int .i64 x3, .int .i64 y1, .int .i64 y2, .int .i64 y3] ∧ Blk W7 (W0.heap.size + 1) [.int .i64 c1, .int .i64 c2, .int .i64 c3] ∧ Blk W7 (W1.heap.size) [.int .i64 u1, .int .i64 u2, .int .i64 u3, .int .i64 v1, .int .i64 v2, .int .i64 v3] ∧ Blk W7 (W2.heap.size) [.int .i64 u1, .int .i64 u2, .int .i64 u3, .int .i64 v1, .int .i64 v2, .int .i64 v3] ∧ Blk W7 (W5.heap.size) [.int .i64 n1, .int .i64 n2, .int .i64 n3] ∧ Blk W7 (W6.heap.size) [.int .i64 m1, .int .i64 m2, .int .i64 m3] := by
           refine ⟨?_, ?_, ?_, ?_, ?_, ?_⟩ <;> refine Blk.keep hb ?_ <;> (repeat' (first | (with_reducible first | assumption | apply Blk.set | (refine Blk.new ?_; focus (first | rfl | (simp; done))) | refine Blk.alloc ?_ _ | refine Blk.other ?_ ?_ _) | exact eqL rfl | (refine neB ?_; omega)))
         have ca := Ba.cell
         have fa := Ba.free
         have la_W7 := Ba.lt
         have cc := Bc.cell
         have fc := Bc.free
         have lc_W7 := Bc.lt
         have co := Bo.cell
         have fo := Bo.free
         have lo_W7 := Bo.lt
         have cw := Bw.cell
         have fw := Bw.free
         have lw_W7 := Bw.lt
         have cn := Bn.cell
         have fn := Bn.free
         have ln_W7 := Bn.lt
         have cm := Bm.cell
         have fm := Bm.free
         have lm_W7 := Bm.lt
         have kaW7 : Acc w W7 := by
           refine Acc.call ?_ hb
           (repeat' (first | (with_reducible first | assumption | exact Acc.refl _ | refine Acc.alloc ?_ _ | refine Acc.setCell ?_ ?_ _) | (refine leB ?_; omega)))
         clear hb
         go_wp2_with fail
         obtain ⟨⟨t1, t2, t3⟩, hv⟩ : ∃ o, partsR (timesF m1 m2 m3 0 0 0) = o := ⟨_, rfl⟩
         obtain ⟨kt, hk⟩ : ∃ k, okR (timesF m1 m2 m3 0 0 0) = k := ⟨_, rfl⟩
         obtain ⟨ht1, ht2, ht3⟩ := parts_i64 (fun _ _ _ h => times_ok h) hv
         have HV := Lib.hid hv
         have HK := Lib.hid hk
         clear hv hk
         refine (gave_any HV.out HK.out (implTimes_any m1 m2 m3 0 0 0 hm1 hm2 hm3 i64_0 i64_0 i64_0 _ (HL.out _ (by repeat' (first | (with_reducible first | assumption | exact Acc.refl _ | refine Acc.alloc ?_ _ | refine Acc.setCell ?_ ?_ _) | (refine leB ?_; omega)))))).mono ?_
         rintro e W8 ⟨rfl, hb⟩
         obtain ⟨Ba, Bc, Bo, Bw, Bn, Bm, Bg⟩ : Blk W8 (W0.heap.size) [.int .i64 x1, .int .i64 x2, .int .i64 x3, .int .i64 y1, .int .i64 y2, .int .i64 y3] ∧ Blk W8 (W0.heap.size + 1) [.int .i64 c1, .int .i64 c2, .int .i64 c3] ∧ Blk W8 (W1.heap.size) [.int .i64 u1, .int .i64 u2, .int .i64 u3, .int .i64 v1, .int .i64 v2, .int .i64 v3] ∧ Blk W8 (W2.heap.size) [.int .i64 u1, .int .i64 u2, .int .i64 u3, .int .i64 v1, .int .i64 v2, .int .i64 v3] ∧ Blk W8 (W5.heap.size) [.int .i64 n1, .int .i64 n2, .int .i64 n3] ∧ Blk W8 (W6.heap.size) [.int .i64 m1, .int .i64 m2, .int .i64 m3] ∧ Blk W8 (W7.heap.size) [.int .i64 0, .int .i64 0, .int .i64 0] := by
           refine ⟨?_, ?_, ?_, ?_, ?_, ?_, ?_⟩ <;> refine Blk.keep hb ?_ <;> (repeat' (first | (with_reducible first | assumption | apply Blk.set | (refine Blk.new ?_; focus (first | rfl | (simp; done))) | refine Blk.alloc ?_ _ | refine Blk.other ?_ ?_ _) | exact eqL rfl | (refine neB ?_; omega)))
         have ca := Ba.cell
         have fa := Ba.free
         have la_W8 := Ba.lt
         have cc := Bc.cell
         have fc := Bc.free
         have lc_W8 := Bc.lt
         have co := Bo.cell
         have fo := Bo.free
         have lo_W8 := Bo.lt
         have cw := Bw.cell
         have fw := Bw.free
         have lw_W8 := Bw.lt
         have cn := Bn.cell
         have fn := Bn.free
         have ln_W8 := Bn.lt
         have cm := Bm.cell
         have fm := Bm.free
         have lm_W8 := Bm.lt
         have cg := Bg.cell
         have fg := Bg.free
         have lg_W8 := Bg.lt
         have kaW8 : Acc w W8 := by
           refine Acc.call ?_ hb
           (repeat' (first | (with_reducible first | assumption | exact Acc.refl _ | refine Acc.alloc ?_ _ | refine Acc.setCell ?_ ?_ _) | (refine leB ?_; omega)))
         clear hb
         go_wp2_with fail
         all_goals
           go_ret
           refine ⟨by first | rfl | (simp [*]; done) | (simp [go_sem, *]; done), ?_⟩
           show Acc w _
           (repeat' (first | (with_reducible first | assumption | exact Acc.refl _ | refine Acc.alloc ?_ _ | refine Acc.setCell ?_ ?_ _) | (refine leB ?_; omega)))
        | some v =>
         obtain ⟨g1, g2, g3⟩ := v
         obtain ⟨hg1, hg2, hg3⟩ := okF_i64 (power_ok ht)
         have HG := Lib.hid ht
         clear ht
         refine (gave_some HG.out (implPower_any c1 c2 c3 hc1 hc2 hc3 _ (HL.out _ (by repeat' (first | (with_reducible first | assumption | exact Acc.refl _ | refine Acc.alloc ?_ _ | refine Acc.setCell ?_ ?_ _) | (refine leB ?_; omega)))))).mono ?_
         rintro e W7 ⟨rfl, hb⟩
         obtain ⟨Ba, Bc, Bo, Bw, Bn, Bm⟩ : Blk W7 (W0.heap.size) [.int .i64 x1, .int .i64 x2, .int .i64 x3, .int .i64 y1, .int .i64 y2, .int .i64 y3] ∧ Blk W7 (W0.heap.size + 1) [.int .i64 c1, .int .i64 c2, .int .i64 c3] ∧ Blk W7 (W1.heap.size) [.int .i64 u1, .int .i64 u2, .int .i64 u3, .int .i64 v1, .int .i64 v2, .int .i64 v3] ∧ Blk W7 (W2.heap.size) [.int .i64 u1, .int .i64 u2, .int .i64 u3, .int .i64 v1, .int .i64 v2, .int .i64 v3] ∧ Blk W7 (W5.heap.size) [.int .i64 n1, .int .i64 n2, .int .i64 n3] ∧ Blk W7 (W6.heap.size) [.int .i64 m1, .int .i64 m2, .int .i64 m3] := by
           refine ⟨?_, ?_, ?_, ?_, ?_, ?_⟩ <;> refine Blk.keep hb ?_ <;> (repeat' (first | (with_reducible first | assumption | apply Blk.set | (refine Blk.new ?_; focus (first | rfl | (simp; done))) | refine Blk.alloc ?_ _ | refine Blk.other ?_ ?_ _) | exact eqL rfl | (refine neB ?_; omega)))
         have ca := Ba.cell
         have fa := Ba.free
         have la_W7 := Ba.lt
         have cc := Bc.cell
         have fc := Bc.free
         have lc_W7 := Bc.lt
         have co := Bo.cell
         have fo := Bo.free
         have lo_W7 := Bo.lt
         have cw := Bw.cell
         have fw := Bw.free
         have lw_W7 := Bw.lt
         have cn := Bn.cell
         have fn := Bn.free
         have ln_W7 := Bn.lt
         have cm := Bm.cell
         have fm := Bm.free
         have lm_W7 := Bm.lt
         have kaW7 : Acc w W7 := by
           refine Acc.call ?_ hb
           (repeat' (first | (with_reducible first | assumption | exact Acc.refl _ | refine Acc.alloc ?_ _ | refine Acc.setCell ?_ ?_ _) | (refine leB ?_; omega)))
         clear hb
         go_wp2_with fail
         cases ht : timesF m1 m2 m3 g1 g2 g3 with
         | none =>
          have HT := Lib.hid ht
          clear ht
          refine (gave_none HT.out (implTimes_any m1 m2 m3 g1 g2 g3 hm1 hm2 hm3 hg1 hg2 hg3 _ (HL.out _ (by repeat' (first | (with_reducible first | assumption | exact Acc.refl _ | refine Acc.alloc ?_ _ | refine Acc.setCell ?_ ?_ _) | (refine leB ?_; omega)))))).mono ?_
          rintro e W8 ⟨rfl, hb⟩
          obtain ⟨Ba, Bc, Bo, Bw, Bn, Bm, Bg⟩ : Blk W8 (W0.heap.size) [.int .i64 x1, .int .i64 x2, .int .i64 x3, .int .i64 y1, .int .i64 y2, .int .i64 y3] ∧ Blk W8 (W0.heap.size + 1) [.int .i64 c1, .int .i64 c2, .int .i64 c3] ∧ Blk W8 (W1.heap.size) [.int .i64 u1, .int .i64 u2, .int .i64 u3, .int .i64 v1, .int .i64 v2, .int .i64 v3] ∧ Blk W8 (W2.heap.size) [.int .i64 u1, .int .i64 u2, .int .i64 u3, .int .i64 v1, .int .i64 v2, .int .i64 v3] ∧ Blk W8 (W5.heap.size) [.int .i64 n1, .int .i64 n2, .int .i64 n3] ∧ Blk W8 (W6.heap.size) [.int .i64 m1, .int .i64 m2, .int .i64 m3] ∧ Blk W8 (W7.heap.size) [.int .i64 g1, .int .i64 g2, .int .i64 g3] := by
            refine ⟨?_, ?_, ?_, ?_, ?_, ?_, ?_⟩ <;> refine Blk.keep hb ?_ <;> (repeat' (first | (with_reducible first | assumption | apply Blk.set | (refine Blk.new ?_; focus (first | rfl | (simp; done))) | refine Blk.alloc ?_ _ | refine Blk.other ?_ ?_ _) | exact eqL rfl | (refine neB ?_; omega)))
          have ca := Ba.cell
          have fa := Ba.free
          have la_W8 := Ba.lt
          have cc := Bc.cell
          have fc := Bc.free
          have lc_W8 := Bc.lt
          have co := Bo.cell
          have fo := Bo.free
          have lo_W8 := Bo.lt
          have cw := Bw.cell
          have fw := Bw.free
          have lw_W8 := Bw.lt
          have cn := Bn.cell
          have fn := Bn.free
          have ln_W8 := Bn.lt
          have cm := Bm.cell
          have fm := Bm.free
          have lm_W8 := Bm.lt
          have cg := Bg.cell
          have fg := Bg.free
          have lg_W8 := Bg.lt
          have kaW8 : Acc w W8 := by
            refine Acc.call ?_ hb
            (repeat' (first | (with_reducible first | assumption | exact Acc.refl _ | refine Acc.alloc ?_ _ | refine Acc.setCell ?_ ?_ _) | (refine leB ?_; omega)))
          clear hb
          go_wp2_with fail
          all_goals
            go_ret
            refine ⟨by first | rfl | (simp [*]; done) | (simp [go_sem, *]; done), ?_⟩
            show Acc w _
            (repeat' (first | (with_reducible first | assumption | exact Acc.refl _ | refine Acc.alloc ?_ _ | refine Acc.setCell ?_ ?_ _) | (refine leB ?_; omega)))
         | some v =>
          obtain ⟨t1, t2, t3⟩ := v
          obtain ⟨ht1, ht2, ht3⟩ := okF_i64 (times_ok ht)
          have HT := Lib.hid ht
          clear ht
          refine (gave_some HT.out (implTimes_any m1 m2 m3 g1 g2 g3 hm1 hm2 hm3 hg1 hg2 hg3 _ (HL.out _ (by repeat' (first | (with_reducible first | assumption | exact Acc.refl _ | refine Acc.alloc ?_ _ | refine Acc.setCell ?_ ?_ _) | (refine leB ?_; omega)))))).mono ?_
          rintro e W8 ⟨rfl, hb⟩
          obtain ⟨Ba, Bc, Bo, Bw, Bn, Bm, Bg⟩ : Blk W8 (W0.heap.size) [.int .i64 x1, .int .i64 x2, .int .i64 x3, .int .i64 y1, .int .i64 y2, .int .i64 y3] ∧ Blk W8 (W0.heap.size + 1) [.int .i64 c1, .int .i64 c2, .int .i64 c3] ∧ Blk W8 (W1.heap.size) [.int .i64 u1, .int .i64 u2, .int .i64 u3, .int .i64 v1, .int .i64 v2, .int .i64 v3] ∧ Blk W8 (W2.heap.size) [.int .i64 u1, .int .i64 u2, .int .i64 u3, .int .i64 v1, .int .i64 v2, .int .i64 v3] ∧ Blk W8 (W5.heap.size) [.int .i64 n1, .int .i64 n2, .int .i64 n3] ∧ Blk W8 (W6.heap.size) [.int .i64 m1, .int .i64 m2, .int .i64 m3] ∧ Blk W8 (W7.heap.size) [.int .i64 g1, .int .i64 g2, .int .i64 g3] := by
            refine ⟨?_, ?_, ?_, ?_, ?_, ?_, ?_⟩ <;> refine Blk.keep hb ?_ <;> (repeat' (first | (with_reducible first | assumption | apply Blk.set | (refine Blk.new ?_; focus (first | rfl | (simp; done))) | refine Blk.alloc ?_ _ | refine Blk.other ?_ ?_ _) | exact eqL rfl | (refine neB ?_; omega)))
          have ca := Ba.cell
          have fa := Ba.free
          have la_W8 := Ba.lt
          have cc := Bc.cell
          have fc := Bc.free
          have lc_W8 := Bc.lt
          have co := Bo.cell
          have fo := Bo.free
          have lo_W8 := Bo.lt
          have cw := Bw.cell
          have fw := Bw.free
          have lw_W8 := Bw.lt
          have cn := Bn.cell
          have fn := Bn.free
          have ln_W8 := Bn.lt
          have cm := Bm.cell
          have fm := Bm.free
          have lm_W8 := Bm.lt
          have cg := Bg.cell
          have fg := Bg.free
          have lg_W8 := Bg.lt
          have kaW8 : Acc w W8 := by
            refine Acc.call ?_ hb
            (repeat' (first | (with_reducible first | assumption | exact Acc.refl _ | refine Acc.alloc ?_ _ | refine Acc.setCell ?_ ?_ _) | (refine leB ?_; omega)))
          clear hb
          go_wp2_with fail
          all_goals obtain ⟨⟩ := times_power HO.out HN.out HM.out HG.out HT.out
          all_goals try exact absurd rfl (by assumption)
          all_goals
            go_ret
            refine ⟨by first | rfl | (simp [*]; done) | (simp [go_sem, *]; done), ?_⟩
            show Acc w _
            (repeat' (first | (with_reducible first | assumption | exact Acc.refl _ | refine Acc.alloc ?_ _ | refine Acc.setCell ?_ ?_ _) | (refine leB ?_; omega)))
     | some v =>
      obtain ⟨p1, p2, p3⟩ := v
      have HP := Lib.hid ht
      clear ht
      refine (gave_some HP.out (implTimes_any x1 x2 x3 v1 v2 v3 hx1 hx2 hx3 hv1 hv2 hv3 _ (HL.out _ (by repeat' (first | (with_reducible first | assumption | exact Acc.refl _ | refine Acc.alloc ?_ _ | refine Acc.setCell ?_ ?_ _) | (refine leB ?_; omega)))))).mono ?_
      rintro e W3 ⟨rfl, hb⟩
      obtain ⟨Ba, Bc, Bo, Bw⟩ : Blk W3 (W0.heap.size) [.int .i64 x1, .int .i64 x2, .int .i64 x3, .int .i64 y1, .int .i64 y2, .int .i64 y3] ∧ Blk W3 (W0.heap.size + 1) [.int .i64 c1, .int .i64 c2, .int .i64 c3] ∧ Blk W3 (W1.heap.size) [.int .i64 u1, .int .i64 u2, .int .i64 u3, .int .i64 v1, .int .i64 v2, .int .i64 v3] ∧ Blk W3 (W2.heap.size) [.int .i64 u1, .int .i64 u2, .int .i64 u3, .int .i64 v1, .int .i64 v2, .int .i64 v3] := by
        refine ⟨?_, ?_, ?_, ?_⟩ <;> refine Blk.keep hb ?_ <;> (repeat' (first | (with_reducible first | assumption | apply Blk.set | (refine Blk.new ?_; focus (first | rfl | (simp; done))) | refine Blk.alloc ?_ _ | refine Blk.other ?_ ?_ _) | exact eqL rfl | (refine neB ?_; omega)))
      have ca := Ba.cell
      have fa := Ba.free
      have la_W3 := Ba.lt
      have cc := Bc.cell
      have fc := Bc.free
      have lc_W3 := Bc.lt
      have co := Bo.cell
      have fo := Bo.free
      have lo_W3 := Bo.lt
      have cw := Bw.cell
      have fw := Bw.free
      have lw_W3 := Bw.lt
      have kaW3 : Acc w W3 := by
        refine Acc.call ?_ hb
        (repeat' (first | (with_reducible first | assumption | exact Acc.refl _ | refine Acc.alloc ?_ _ | refine Acc.setCell ?_ ?_ _) | (refine leB ?_; omega)))
      clear hb
      go_wp2_with fail
      cases ht : timesF y1 y2 y3 u1 u2 u3 with
      | none =>
       have HQ := Lib.hid ht
       clear ht
       refine (gave_none HQ.out (implTimes_any y1 y2 y3 u1 u2 u3 hy1 hy2 hy3 hu1 hu2 hu3 _ (HL.out _ (by repeat' (first | (with_reducible first | assumption | exact Acc.refl _ | refine Acc.alloc ?_ _ | refine Acc.setCell ?_ ?_ _) | (refine leB ?_; omega)))))).mono ?_
       rintro e W4 ⟨rfl, hb⟩
       obtain ⟨Ba, Bc, Bo, Bw⟩ : Blk W4 (W0.heap.size) [.int .i64 x1, .int .i64 x2, .int .i64 x3, .int .i64 y1, .int .i64 y2, .int .i64 y3] ∧ Blk W4 (W0.heap.size + 1) [.int .i64 c1, .int .i64 c2, .int .i64 c3] ∧ Blk W4 (W1.heap.size) [.int .i64 u1, .int .i64 u2, .int .i64 u3, .int .i64 v1, .int .i64 v2, .int .i64 v3] ∧ Blk W4 (W2.heap.size) [.int .i64 u1, .int .i64 u2, .int .i64 u3, .int .i64 v1, .int .i64 v2, .int .i64 v3] := by
         refine ⟨?_, ?_, ?_, ?_⟩ <;> refine Blk.keep hb ?_ <;> (repeat' (first | (with_reducible first | assumption | apply Blk.set | (refine Blk.new ?_; focus (first | rfl | (simp; done))) | refine Blk.alloc ?_ _ | refine Blk.other ?_ ?_ _) | exact eqL rfl | (refine neB ?_; omega)))
       have ca := Ba.cell
       have fa := Ba.free
       have la_W4 := Ba.lt
       have cc := Bc.cell
       have fc := Bc.free
       have lc_W4 := Bc.lt
       have co := Bo.cell
       have fo := Bo.free
       have lo_W4 := Bo.lt
       have cw := Bw.cell
       have fw := Bw.free
       have lw_W4 := Bw.lt
       have kaW4 : Acc w W4 := by
         refine Acc.call ?_ hb
         (repeat' (first | (with_reducible first | assumption | exact Acc.refl _ | refine Acc.alloc ?_ _ | refine Acc.setCell ?_ ?_ _) | (refine leB ?_; omega)))
       clear hb
       go_wp2_with fail
       cases ht : jpowF u1 u2 u3 v1 v2 v3 with
       | none =>
        have HN := Lib.hid ht
        clear ht
        refine (gave_none HN.out (implJPower_any u1 u2 u3 v1 v2 v3 hu1 hu2 hu3 hv1 hv2 hv3 _ (HL.out _ (by repeat' (first | (with_reducible first | assumption | exact Acc.refl _ | refine Acc.alloc ?_ _ | refine Acc.setCell ?_ ?_ _) | (refine leB ?_; omega)))))).mono ?_
        rintro e W5 ⟨rfl, hb⟩
        obtain ⟨Ba, Bc, Bo, Bw⟩ : Blk W5 (W0.heap.size) [.int .i64 x1, .int .i64 x2, .int .i64 x3, .int .i64 y1, .int .i64 y2, .int .i64 y3] ∧ Blk W5 (W0.heap.size + 1) [.int .i64 c1, .int .i64 c2, .int .i64 c3] ∧ Blk W5 (W1.heap.size) [.int .i64 u1, .int .i64 u2, .int .i64 u3, .int .i64 v1, .int .i64 v2, .int .i64 v3] ∧ Blk W5 (W2.heap.size) [.int .i64 u1, .int .i64 u2, .int .i64 u3, .int .i64 v1, .int .i64 v2, .int .i64 v3] := by
          refine ⟨?_, ?_, ?_, ?_⟩ <;> refine Blk.keep hb ?_ <;> (repeat' (first | (with_reducible first | assumption | apply Blk.set | (refine Blk.new ?_; focus (first | rfl | (simp; done))) | refine Blk.alloc ?_ _ | refine Blk.other ?_ ?_ _) | exact eqL rfl | (refine neB ?_; omega)))
        have ca := Ba.cell
        have fa := Ba.free
        have la_W5 := Ba.lt
        have cc := Bc.cell
        have fc := Bc.free
        have lc_W5 := Bc.lt
        have co := Bo.cell
        have fo := Bo.free
        have lo_W5 := Bo.lt
        have cw := Bw.cell
        have fw := Bw.free
        have lw_W5 := Bw.lt
        have kaW5 : Acc w W5 := by
          refine Acc.call ?_ hb
          (repeat' (first | (with_reducible first | assumption | exact Acc.refl _ | refine Acc.alloc ?_ _ | refine Acc.setCell ?_ ?_ _) | (refine leB ?_; omega)))
        clear hb
        go_wp2_with fail
        obtain ⟨⟨m1, m2, m3⟩, hv⟩ : ∃ o, partsR (jpowF x1 x2 x3 y1 y2 y3) = o := ⟨_, rfl⟩
        obtain ⟨km, hk⟩ : ∃ k, okR (jpowF x1 x2 x3 y1 y2 y3) = k := ⟨_, rfl⟩
        obtain ⟨hm1, hm2, hm3⟩ := parts_i64 (fun _ _ _ h => jpow_ok h) hv
        have HV := Lib.hid hv
        have HK := Lib.hid hk
        clear hv hk
        refine (gave_any HV.out HK.out (implJPower_any x1 x2 x3 y1 y2 y3 hx1 hx2 hx3 hy1 hy2 hy3 _ (HL.out _ (by repeat' (first | (with_reducible first | assumption | exact Acc.refl _ | refine Acc.alloc ?_ _ | refine Acc.setCell ?_ ?_ _) | (refine leB ?_; omega)))))).mono ?_
        rintro e W6 ⟨rfl, hb⟩
        obtain ⟨Ba, Bc, Bo, Bw, Bn⟩ : Blk W6 (W0.heap.size) [.int .i64 x1, .int .i64 x2, .int .i64 x3, .int .i64 y1, .int .i64 y2, .int .i64 y3] ∧ Blk W6 (W0.heap.size + 1) [.int .i64 c1, .int .i64 c2, .int .i64 c3] ∧ Blk W6 (W1.heap.size) [.int .i64 u1, .int .i64 u2, .int .i64 u3, .int .i64 v1, .int .i64 v2, .int .i64 v3] ∧ Blk W6 (W2.heap.size) [.int .i64 u1, .int .i64 u2, .int .i64 u3, .int .i64 v1, .int .i64 v2, .int .i64 v3] ∧ Blk W6 (W5.heap.size) [.int .i64 0, .int .i64 0, .int .i64 0] := by
          refine ⟨?_, ?_, ?_, ?_, ?_⟩ <;> refine Blk.keep hb ?_ <;> (repeat' (first | (with_reducible first | assumption | apply Blk.set | (refine Blk.new ?_; focus (first | rfl | (simp; done))) | refine Blk.alloc ?_ _ | refine Blk.other ?_ ?_ _) | exact eqL rfl | (refine neB ?_; omega)))
        have ca := Ba.cell
        have fa := Ba.free
        have la_W6 := Ba.lt
        have cc := Bc.cell
        have fc := Bc.free
        have lc_W6 := Bc.lt
        have co := Bo.cell
        have fo := Bo.free
        have lo_W6 := Bo.lt
        have cw := Bw.cell
        have fw := Bw.free
        have lw_W6 := Bw.lt
        have cn := Bn.cell
        have fn := Bn.free
        have ln_W6 := Bn.lt
        have kaW6 : Acc w W6 := by
          refine Acc.call ?_ hb
          (repeat' (first | (with_reducible first | assumption | exact Acc.refl _ | refine Acc.alloc ?_ _ | refine Acc.setCell ?_ ?_ _) | (refine leB ?_; omega)))
        clear hb
        go_wp2_with fail
        obtain ⟨⟨g1, g2, g3⟩, hv⟩ : ∃ o, partsR (powerF c1 c2 c3) = o := ⟨_, rfl⟩
        obtain ⟨kg, hk⟩ : ∃ k, okR (powerF c1 c2 c3) = k := ⟨_, rfl⟩
        obtain ⟨hg1, hg2, hg3⟩ := parts_i64 (fun _ _ _ h => power_ok h) hv
        have HV := Lib.hid hv
        have HK := Lib.hid hk
        clear hv hk
        refine (gave_any HV.out HK.out (implPower_any c1 c2 c3 hc1 hc2 hc3 _ (HL.out _ (by repeat' (first | (with_reducible first | assumption | exact Acc.refl _ | refine Acc.alloc ?_ _ | refine Acc.setCell ?_ ?_ _) | (refine leB ?_; omega)))))).mono ?_
        rintro e W7 ⟨rfl, hb⟩
        obtain ⟨Ba, Bc, Bo, Bw, Bn, Bm⟩ : Blk W7 (W0.heap.size) [.int .i64 x1, .int .i64 x2, .int .i64 x3, .int .i64 y1, .int .i64 y2, .int .i64 y3] ∧ Blk W7 (W0.heap.size + 1) [.int .i64 c1, .int .i64 c2, .int .i64 c3] ∧ Blk W7 (W1.heap.size) [.int .i64 u1, .int .i64 u2, .int .i64 u3, .int .i64 v1, .int .i64 v2, .int .i64 v3] ∧ Blk W7 (W2.heap.size) [.int .i64 u1, .int .i64 u2, .int .i64 u3, .int .i64 v1, .int .i64 v2, .int .i64 v3] ∧ Blk W7 (W5.heap.size) [.int .i64 0, .int .i64 0, .int .i64 0] ∧ Blk W7 (W6.heap.size) [.int .i64 m1, .int .i64 m2, .int .i64 m3] := by
          refine ⟨?_, ?_, ?_, ?_, ?_, ?_⟩ <;> refine Blk.keep hb ?_ <;> (repeat' (first | (with_reducible first | assumption | apply Blk.set | (refine Blk.new ?_; focus (first | rfl | (simp; done))) | refine Blk.alloc ?_ _ | refine Blk.other ?_ ?_ _) | exact eqL rfl | (refine neB ?_; omega)))
        have ca := Ba.cell
        have fa := Ba.free
        have la_W7 := Ba.lt
        have cc := Bc.cell
        have fc := Bc.free
        have lc_W7 := Bc.lt
        have co := Bo.cell
        have fo := Bo.free
        have lo_W7 := Bo.lt
        have cw := Bw.cell
        have fw := Bw.free
        have lw_W7 := Bw.lt
        have cn := Bn.cell
        have fn := Bn.free
        have ln_W7 := Bn.lt
        have cm := Bm.cell
        have fm := Bm.free
        have lm_W7 := Bm.lt
        have kaW7 : Acc w W7 := by
          refine Acc.call ?_ hb
          (repeat' (first | (with_reducible first | assumption | exact Acc.refl _ | refine Acc.alloc ?_ _ | refine Acc.setCell ?_ ?_ _) | (refine leB ?_; omega)))
        clear hb
        go_wp2_with fail
        obtain ⟨⟨t1, t2, t3⟩, hv⟩ : ∃ o, partsR (timesF m1 m2 m3 g1 g2 g3) = o := ⟨_, rfl⟩
        obtain ⟨kt, hk⟩ : ∃ k, okR (timesF m1 m2 m3 g1 g2 g3) = k := ⟨_, rfl⟩
        obtain ⟨ht1, ht2, ht3⟩ := parts_i64 (fun _ _ _ h => times_ok h) hv
        have HV := Lib.hid hv
        have HK := Lib.hid hk
        clear hv hk
        refine (gave_any HV.out HK.out (implTimes_any m1 m2 m3 g1 g2 g3 hm1 hm2 hm3 hg1 hg2 hg3 _ (HL.out _ (by repeat' (first | (with_reducible first | assumption | exact Acc.refl _ | refine Acc.alloc ?_ _ | refine Acc.setCell ?_ ?_ _) | (refine leB ?_; omega)))))).mono ?_
        rintro e W8 ⟨rfl, hb⟩
        obtain ⟨Ba, Bc, Bo, Bw, Bn, Bm, Bg⟩ : Blk W8 (W0.heap.size) [.int .i64 x1, .int .i64 x2, .int .i64 x3, .int .i64 y1, .int .i64 y2, .int .i64 y3] ∧ Blk W8 (W0.heap.size + 1) [.int .i64 c1, .int .i64 c2, .int .i64 c3] ∧ Blk W8 (W1.heap.size) [.int .i64 u1, .int .i64 u2, .int .i64 u3, .int .i64 v1, .int .i64 v2, .int .i64 v3] ∧ Blk W8 (W2.heap.size) [.int .i64 u1, .int .i64 u2, .int .i64 u3, .int .i64 v1, .int .i64 v2, .int .i64 v3] ∧ Blk W8 (W5.heap.size) [.int .i64 0, .int .i64 0, .int .i64 0] ∧ Blk W8 (W6.heap.size) [.int .i64 m1, .int .i64 m2, .int .i64 m3] ∧ Blk W8 (W7.heap.size) [.int .i64 g1, .int .i64 g2, .int .i64 g3] := by
          refine ⟨?_, ?_, ?_, ?_, ?_, ?_, ?_⟩ <;> refine Blk.keep hb ?_ <;> (repeat' (first | (with_reducible first | assumption | apply Blk.set | (refine Blk.new ?_; focus (first | rfl | (simp; done))) | refine Blk.alloc ?_ _ | refine Blk.other ?_ ?_ _) | exact eqL rfl | (refine neB ?_; omega)))
        have ca := Ba.cell
        have fa := Ba.free
        have la_W8 := Ba.lt
        have cc := Bc.cell
        have fc := Bc.free
        have lc_W8 := Bc.lt
        have co := Bo.cell
        have fo := Bo.free
        have lo_W8 := Bo.lt
        have cw := Bw.cell
        have fw := Bw.free
        have lw_W8 := Bw.lt
        have cn := Bn.cell
        have fn := Bn.free
        have ln_W8 := Bn.lt
        have cm := Bm.cell
        have fm := Bm.free
        have lm_W8 := Bm.lt
        have cg := Bg.cell
        have fg := Bg.free
        have lg_W8 := Bg.lt
        have kaW8 : Acc w W8 := by
          refine Acc.call ?_ hb
          (repeat' (first | (with_reducible first | assumption | exact Acc.refl _ | refine Acc.alloc ?_ _ | refine Acc.setCell ?_ ?_ _) | (refine leB ?_; omega)))
        clear hb
        go_wp2_with fail
        all_goals
          go_ret
          refine ⟨by first | rfl | (simp [*]; done) | (simp [go_sem, *]; done), ?_⟩
          show Acc w _
          (repeat' (first | (with_reducible first | assumption | exact Acc.refl _ | refine Acc.alloc ?_ _ | refine Acc.setCell ?_ ?_ _) | (refine leB ?_; omega)))
       | some v =>
        obtain ⟨n1, n2, n3⟩ := v
        obtain ⟨hn1, hn2, hn3⟩ := okF_i64 (jpow_ok ht)
        have HN := Lib.hid ht
        clear ht
        refine (gave_some HN.out (implJPower_any u1 u2 u3 v1 v2 v3 hu1 hu2 hu3 hv1 hv2 hv3 _ (HL.out _ (by repeat' (first | (with_reducible first | assumption | exact Acc.refl _ | refine Acc.alloc ?_ _ | refine Acc.setCell ?_ ?_ _) | (refine leB ?_; omega)))))).mono ?_
        rintro e W5 ⟨rfl, hb⟩
        obtain ⟨Ba, Bc, Bo, Bw⟩ : Blk W5 (W0.heap.size) [.int .i64 x1, .int .i64 x2, .int .i64 x3, .int .i64 y1, .int .i64 y2, .int .i64 y3] ∧ Blk W5 (W0.heap.size + 1) [.int .i64 c1, .int .i64 c2, .int .i64 c3] ∧ Blk W5 (W1.heap.size) [.int .i64 u1, .int .i64 u2, .int .i64 u3, .int .i64 v1, .int .i64 v2, .int .i64 v3] ∧ Blk W5 (W2.heap.size) [.int .i64 u1, .int .i64 u2, .int .i64 u3, .int .i64 v1, .int .i64 v2, .int .i64 v3] := by
          refine ⟨?_, ?_, ?_, ?_⟩ <;> refine Blk.keep hb ?_ <;> (repeat' (first | (with_reducible first | assumption | apply Blk.set | (refine Blk.new ?_; focus (first | rfl | (simp; done))) | refine Blk.alloc ?_ _ | refine Blk.other ?_ ?_ _) | exact eqL rfl | (refine neB ?_; omega)))
        have ca := Ba.cell
        have fa := Ba.free
        have la_W5 := Ba.lt
        have cc := Bc.cell
        have fc := Bc.free
        have lc_W5 := Bc.lt
        have co := Bo.cell
        have fo := Bo.free
        have lo_W5 := Bo.lt
        have cw := Bw.cell
        have fw := Bw.free
        have lw_W5 := Bw.lt
        have kaW5 : Acc w W5 := by
          refine Acc.call ?_ hb
          (repeat' (first | (with_reducible first | assumption | exact Acc.refl _ | refine Acc.alloc ?_ _ | refine Acc.setCell ?_ ?_ _) | (refine leB ?_; omega)))
        clear hb
        go_wp2_with fail
        cases ht : jpowF x1 x2 x3 y1 y2 y3 with
        | none =>
         have HM := Lib.hid ht
         clear ht
         refine (gave_none HM.out (implJPower_any x1 x2 x3 y1 y2 y3 hx1 hx2 hx3 hy1 hy2 hy3 _ (HL.out _ (by repeat' (first | (with_reducible first | assumption | exact Acc.refl _ | refine Acc.alloc ?_ _ | refine Acc.setCell ?_ ?_ _) | (refine leB ?_; omega)))))).mono ?_
         rintro e W6 ⟨rfl, hb⟩
         obtain ⟨Ba, Bc, Bo, Bw, Bn⟩ : Blk W6 (W0.heap.size) [.int .i64 x1, .int .i64 x2, .int .i64 x3, .int .i64 y1, .int .i64 y2, .int .i64 y3] ∧ Blk W6 (W0.heap.size + 1) [.int .i64 c1, .int .i64 c2, .int .i64 c3] ∧ Blk W6 (W1.heap.size) [.int .i64 u1, .int .i64 u2, .int .i64 u3, .int .i64 v1, .int .i64 v2, .int .i64 v3] ∧ Blk W6 (W2.heap.size) [.int .i64 u1, .int .i64 u2, .int .i64 u3, .int .i64 v1, .int .i64 v2, .int .i64 v3] ∧ Blk W6 (W5.heap.size) [.int .i64 n1, .int .i64 n2, .int .i64 n3] := by
           refine ⟨?_, ?_, ?_, ?_, ?_⟩ <;> refine Blk.keep hb ?_ <;> (repeat' (first | (with_reducible first | assumption | apply Blk.set | (refine Blk.new ?_; focus (first | rfl | (simp; done))) | refine Blk.alloc ?_ _ | refine Blk.other ?_ ?_ _) | exact eqL rfl | (refine neB ?_; omega)))
         have ca := Ba.cell
         have fa := Ba.free
         have la_W6 := Ba.lt
         have cc := Bc.cell
         have fc := Bc.free
         have lc_W6 := Bc.lt
         have co := Bo.cell
         have fo := Bo.free
         have lo_W6 := Bo.lt
         have cw := Bw.cell
         have fw := Bw.free
         have lw_W6 := Bw.lt
         have cn := Bn.cell
         have fn := Bn.free
         have ln_W6 := Bn.lt
         have kaW6 : Acc w W6 := by
           refine Acc.call ?_ hb
           (repeat' (first | (with_reducible first | assumption | exact Acc.refl _ | refine Acc.alloc ?_ _ | refine Acc.setCell ?_ ?_ _) | (refine leB ?_; omega)))
         clear hb
         go_wp2_with fail
         obtain ⟨⟨g1, g2, g3⟩, hv⟩ : ∃ o, partsR (powerF c1 c2 c3) = o := ⟨_, rfl⟩
         obtain ⟨kg, hk⟩ : ∃ k, okR (powerF c1 c2 c3) = k := ⟨_, rfl⟩
         obtain ⟨hg1, hg2, hg3⟩ := parts_i64 (fun _ _ _ h => power_ok h) hv
         have HV := Lib.hid hv
         have HK := Lib.hid hk
         clear hv hk
         refine (gave_any HV.out HK.out (implPower_any c1 c2 c3 hc1 hc2 hc3 _ (HL.out _ (by repeat' (first | (with_reducible first | assumption | exact Acc.refl _ | refine Acc.alloc ?_ _ | refine Acc.setCell ?_ ?_ _) | (refine leB ?_; omega)))))).mono ?_
         rintro e W7 ⟨rfl, hb⟩
         obtain ⟨Ba, Bc, Bo, Bw, Bn, Bm⟩ : Blk W7 (W0.heap.size) [.int .i64 x1, .int .i64 x2, .int .i64 x3, .int .i64 y1, .int .i64 y2, .int .i64 y3] ∧ Blk W7 (W0.heap.size + 1) [.int .i64 c1, .int .i64 c2, .int .i64 c3] ∧ Blk W7 (W1.heap.size) [.int .i64 u1, .int .i64 u2, .int .i64 u3, .int .i64 v1, .int .i64 v2, .int .i64 v3] ∧ Blk W7 (W2.heap.size) [.int .i64 u1, .int .i64 u2, .int .i64 u3, .int .i64 v1, .int .i64 v2, .int .i64 v3] ∧ Blk W7 (W5.heap.size) [.int .i64 n1, .int .i64 n2, .int .i64 n3] ∧ Blk W7 (W6.heap.size) [.int .i64 0, .int .i64 0, .int .i64 0] := by
           refine ⟨?_, ?_, ?_, ?_, ?_, ?_⟩ <;> refine Blk.keep hb ?_ <;> (repeat' (first | (with_reducible first | assumption | apply Blk.set | (refine Blk.new ?_; focus (first | rfl | (simp; done))) | refine Blk.alloc ?_ _ | refine Blk.other ?_ ?_ _) | exact eqL rfl | (refine neB ?_; omega)))
         have ca := Ba.cell
         have fa := Ba.free
         have la_W7 := Ba.lt
         have cc := Bc.cell
         have fc := Bc.free
         have lc_W7 := Bc.lt
         have co := Bo.cell
         have fo := Bo.free
         have lo_W7 := Bo.lt
         have cw := Bw.cell
         have fw := Bw.free
         have lw_W7 := Bw.lt
         have cn := Bn.cell
         have fn := Bn.free
         have ln_W7 := Bn.lt
         have cm := Bm.cell
         have fm := Bm.free
         have lm_W7 := Bm.lt
         have kaW7 : Acc w W7 := by
           refine Acc.call ?_ hb
           (repeat' (first | (with_reducible first | assumption | exact Acc.refl _ | refine Acc.alloc ?_ _ | refine Acc.setCell ?_ ?_ _) | (refine leB ?_; omega)))
         clear hb
         go_wp2_with fail
         obtain ⟨⟨t1, t2, t3⟩, hv⟩ : ∃ o, partsR (timesF 0 0 0 g1 g2 g3) = o := ⟨_, rfl⟩
         obtain ⟨kt, hk⟩ : ∃ k, okR (timesF 0 0 0 g1 g2 g3) = k := ⟨_, rfl⟩
         obtain ⟨ht1, ht2, ht3⟩ := parts_i64 (fun _ _ _ h => times_ok h) hv
         have HV := Lib.hid hv
         have HK := Lib.hid hk
         clear hv hk
         refine (gave_any HV.out HK.out (implTimes_any 0 0 0 g1 g2 g3 i64_0 i64_0 i64_0 hg1 hg2 hg3 _ (HL.out _ (by repeat' (first | (with_reducible first | assumption | exact Acc.refl _ | refine Acc.alloc ?_ _ | refine Acc.setCell ?_ ?_ _) | (refine leB ?_; omega)))))).mono ?_
         rintro e W8 ⟨rfl, hb⟩
         obtain ⟨Ba, Bc, Bo, Bw, Bn, Bm, Bg⟩ : Blk W8 (W0.heap.size) [.int .i64 x1, .int .i64 x2, .int .i64 x3, .int .i64 y1, .int .i64 y2, .int .i64 y3] ∧ Blk W8 (W0.heap.size + 1) [.int .i64 c1, .int .i64 c2, .int .i64 c3] ∧ Blk W8 (W1.heap.size) [.int .i64 u1, .int .i64 u2, .int .i64 u3, .int .i64 v1, .int .i64 v2, .int .i64 v3] ∧ Blk W8 (W2.heap.size) [.int .i64 u1, .int .i64 u2, .int .i64 u3, .int .i64 v1, .int .i64 v2, .int .i64 v3] ∧ Blk W8 (W5.heap.size) [.int .i64 n1, .int .i64 n2, .int .i64 n3] ∧ Blk W8 (W6.heap.size) [.int .i64 0, .int .i64 0, .int .i64 0] ∧ Blk W8 (W7.heap.size) [.int .i64 g1, .int .i64 g2, .int .i64 g3] := by
           refine ⟨?_, ?_, ?_, ?_, ?_, ?_, ?_⟩ <;> refine Blk.keep hb ?_ <;> (repeat' (first | (with_reducible first | assumption | apply Blk.set | (refine Blk.new ?_; focus (first | rfl | (simp; done))) | refine Blk.alloc ?_ _ | refine Blk.other ?_ ?_ _) | exact eqL rfl | (refine neB ?_; omega)))
         have ca := Ba.cell
         have fa := Ba.free
         have la_W8 := Ba.lt
         have cc := Bc.cell
         have fc := Bc.free
         have lc_W8 := Bc.lt
         have co := Bo.cell
         have fo := Bo.free
         have lo_W8 := Bo.lt
         have cw := Bw.cell
         have fw := Bw.free
         have lw_W8 := Bw.lt
         have cn := Bn.cell
         have fn := Bn.free
         have ln_W8 := Bn.lt
         have cm := Bm.cell
         have fm := Bm.free
         have lm_W8 := Bm.lt
         have cg := Bg.cell
         have fg := Bg.free
         have lg_W8 := Bg.lt
         have kaW8 : Acc w W8 := by
           refine Acc.call ?_ hb
           (repeat' (first | (with_reducible first | assumption | exact Acc.refl _ | refine Acc.alloc ?_ _ | refine Acc.setCell ?_ ?_ _) | (refine leB ?_; omega)))
         clear hb
         go_wp2_with fail
         all_goals
           go_ret
           refine ⟨by first | rfl | (simp [*]; done) | (simp [go_sem, *]; done), ?_⟩
           show Acc w _
           (repeat' (first | (with_reducible first | assumption | exact Acc.refl _ | refine Acc.alloc ?_ _ | refine Acc.setCell ?_ ?_ _) | (refine leB ?_; omega)))
        | some v =>
         obtain ⟨m1, m2, m3⟩ := v
         obtain ⟨hm1, hm2, hm3⟩ := okF_i64 (jpow_ok ht)
         have HM := Lib.hid ht
         clear ht
         refine (gave_some HM.out (implJPower_any x1 x2 x3 y1 y2 y3 hx1 hx2 hx3 hy1 hy2 hy3 _ (HL.out _ (by repeat' (first | (with_reducible first | assumption | exact Acc.refl _ | refine Acc.alloc ?_ _ | refine Acc.setCell ?_ ?_ _) | (refine leB ?_; omega)))))).mono ?_
         rintro e W6 ⟨rfl, hb⟩
         obtain ⟨Ba, Bc, Bo, Bw, Bn⟩ : Blk W6 (W0.heap.size) [.int .i64 x1, .int .i64 x2, .int .i64 x3, .int .i64 y1, .int .i64 y2, .int .i64 y3] ∧ Blk W6 (W0.heap.size + 1) [.int .i64 c1, .int .i64 c2, .int .i64 c3] ∧ Blk W6 (W1.heap.size) [.int .i64 u1, .int .i64 u2, .int .i64 u3, .int .i64 v1, .int .i64 v2, .int .i64 v3] ∧ Blk W6 (W2.heap.size) [.int .i64 u1, .int .i64 u2, .int .i64 u3, .int .i64 v1, .int .i64 v2, .int .i64 v3] ∧ Blk W6 (W5.heap.size) [.int .i64 n1, .int .i64 n2, .int .i64 n3] := by
           refine ⟨?_, ?_, ?_, ?_, ?_⟩ <;> refine Blk.keep hb ?_ <;> (repeat' (first | (with_reducible first | assumption | apply Blk.set | (refine Blk.new ?_; focus (first | rfl | (simp; done))) | refine Blk.alloc ?_ _ | refine Blk.other ?_ ?_ _) | exact eqL rfl | (refine neB ?_; omega)))
         have ca := Ba.cell
         have fa := Ba.free
         have la_W6 := Ba.lt
         have cc := Bc.cell
         have fc := Bc.free
         have lc_W6 := Bc.lt
         have co := Bo.cell
         have fo := Bo.free
         have lo_W6 := Bo.lt
         have cw := Bw.cell
         have fw := Bw.free
         have lw_W6 := Bw.lt
         have cn := Bn.cell
         have fn := Bn.free
         have ln_W6 := Bn.lt
         have kaW6 : Acc w W6 := by
           refine Acc.call ?_ hb
           (repeat' (first | (with_reducible first | assumption | exact Acc.refl _ | refine Acc.alloc ?_ _ | refine Acc.setCell ?_ ?_ _) | (refine leB ?_; omega)))
         clear hb
         go_wp2_with fail
         cases ht : powerF c1 c2 c3 with
         | none =>
          have HG := Lib.hid ht
          clear ht
          refine (gave_none HG.out (implPower_any c1 c2 c3 hc1 hc2 hc3 _ (HL.out _ (by repeat' (first | (with_reducible first | assumption | exact Acc.refl _ | refine Acc.alloc ?_ _ | refine Acc.setCell ?_ ?_ _) | (refine leB ?_; omega)))))).mono ?_
          rintro e W7 ⟨rfl, hb⟩
          obtain ⟨Ba, Bc, Bo, Bw, Bn, Bm⟩ : Blk W7 (W0.heap.size) [.int .i64 x1, .int .i64 x2, .int .i64 x3, .int .i64 y1, .int .i64 y2, .int .i64 y3] ∧ Blk W7 (W0.heap.size + 1) [.int .i64 c1, .int .i64 c2, .int .i64 c3] ∧ Blk W7 (W1.heap.size) [.int .i64 u1, .int .i64 u2, .int .i64 u3, .int .i64 v1, .int .i64 v2, .int .i64 v3] ∧ Blk W7 (W2.heap.size) [.int .i64 u1, .int .i64 u2, .int .i64 u3, .int .i64 v1, .int .i64 v2, .int .i64 v3] ∧ Blk W7 (W5.heap.size) [.int .i64 n1, .int .i64 n2, .int .i64 n3] ∧ Blk W7 (W6.heap.size) [.int .i64 m1, .int .i64 m2, .int .i64 m3] := by
            refine ⟨?_, ?_, ?_, ?_, ?_, ?_⟩ <;> refine Blk.keep hb ?_ <;> (repeat' (first | (with_reducible first | assumption | apply Blk.set | (refine Blk.new ?_; focus (first | rfl | (simp; done))) | refine Blk.alloc ?_ _ | refine Blk.other ?_ ?_ _) | exact eqL rfl | (refine neB ?_; omega)))
          have ca := Ba.cell
          have fa := Ba.free
          have la_W7 := Ba.lt
          have cc := Bc.cell
          have fc := Bc.free
          have lc_W7 := Bc.lt
          have co := Bo.cell
          have fo := Bo.free
          have lo_W7 := Bo.lt
          have cw := Bw.cell
          have fw := Bw.free
          have lw_W7 := Bw.lt
          have cn := Bn.cell
          have fn := Bn.free
          have ln_W7 := Bn.lt
          have cm := Bm.cell
          have fm := Bm.free
          have lm_W7 := Bm.lt
          have kaW7 : Acc w W7 := by
            refine Acc.call ?_ hb
            (repeat' (first | (with_reducible first | assumption | exact Acc.refl _ | refine Acc.alloc ?_ _ | refine Acc.setCell ?_ ?_ _) | (refine leB ?_; omega)))
          clear hb
          go_wp2_with fail
          obtain ⟨⟨t1, t2, t3⟩, hv⟩ : ∃ o, partsR (timesF m1 m2 m3 0 0 0) = o := ⟨_, rfl⟩
          obtain ⟨kt, hk⟩ : ∃ k, okR (timesF m1 m2 m3 0 0 0) = k := ⟨_, rfl⟩
          obtain ⟨ht1, ht2, ht3⟩ := parts_i64 (fun _ _ _ h => times_ok h) hv
          have HV := Lib.hid hv
          have HK := Lib.hid hk
          clear hv hk
          refine (gave_any HV.out HK.out (implTimes_any m1 m2 m3 0 0 0 hm1 hm2 hm3 i64_0 i64_0 i64_0 _ (HL.out _ (by repeat' (first | (with_reducible first | assumption | exact Acc.refl _ | refine Acc.alloc ?_ _ | refine Acc.setCell ?_ ?_ _) | (refine leB ?_; omega)))))).mono ?_
          rintro e W8 ⟨rfl, hb⟩
          obtain ⟨Ba, Bc, Bo, Bw, Bn, Bm, Bg⟩ : Blk W8 (W0.heap.size) [.int .i64 x1, .int .i64 x2, .int .i64 x3, .int .i64 y1, .int .i64 y2, .int .i64 y3] ∧ Blk W8 (W0.heap.size + 1) [.int .i64 c1, .int .i64 c2, .int .i64 c3] ∧ Blk W8 (W1.heap.size) [.int .i64 u1, .int .i64 u2, .int .i64 u3, .int .i64 v1, .int .i64 v2, .int .i64 v3] ∧ Blk W8 (W2.heap.size) [.int .i64 u1, .int .i64 u2, .int .i64 u3, .int .i64 v1, .int .i64 v2, .int .i64 v3] ∧ Blk W8 (W5.heap.size) [.int .i64 n1, .int .i64 n2, .int .i64 n3] ∧ Blk W8 (W6.heap.size) [.int .i64 m1, .int .i64 m2, .int .i64 m3] ∧ Blk W8 (W7.heap.size) [.int .i64 0, .int .i64 0, .int .i64 0] := by
            refine ⟨?_, ?_, ?_, ?_, ?_, ?_, ?_⟩ <;> refine Blk.keep hb ?_ <;> (repeat' (first | (with_reducible first | assumption | apply Blk.set | (refine Blk.new ?_; focus (first | rfl | (simp; done))) | refine Blk.alloc ?_ _ | refine Blk.other ?_ ?_ _) | exact eqL rfl | (refine neB ?_; omega)))
          have ca := Ba.cell
          have fa := Ba.free
          have la_W8 := Ba.lt
          have cc := Bc.cell
          have fc := Bc.free
          have lc_W8 := Bc.lt
          have co := Bo.cell
          have fo := Bo.free
          have lo_W8 := Bo.lt
          have cw := Bw.cell
          have fw := Bw.free
          have lw_W8 := Bw.lt
          have cn := Bn.cell
          have fn := Bn.free
          have ln_W8 := Bn.lt
          have cm := Bm.cell
          have fm := Bm.free
          have lm_W8 := Bm.lt
          have cg := Bg.cell
          have fg := Bg.free
          have lg_W8 := Bg.lt
          have kaW8 : Acc w W8 := by
            refine Acc.call ?_ hb
            (repeat' (first | (with_reducible first | assumption | exact Acc.refl _ | refine Acc.alloc ?_ _ | refine Acc.setCell ?_ ?_ _) | (refine leB ?_; omega)))
          clear hb
          go_wp2_with fail
          all_goals
            go_ret
            refine ⟨by first | rfl | (simp [*]; done) | (simp [go_sem, *]; done), ?_⟩
            show Acc w _
            (repeat' (first | (with_reducible first | assumption | exact Acc.refl _ | refine Acc.alloc ?_ _ | refine Acc.setCell ?_ ?_ _) | (refine leB ?_; omega)))
         | some v =>
          obtain ⟨g1, g2, g3⟩ := v
          obtain ⟨hg1, hg2, hg3⟩ := okF_i64 (power_ok ht)
          have HG := Lib.hid ht
          clear ht
          refine (gave_some HG.out (implPower_any c1 c2 c3 hc1 hc2 hc3 _ (HL.out _ (by repeat' (first | (with_reducible first | assumption | exact Acc.refl _ | refine Acc.alloc ?_ _ | refine Acc.setCell ?_ ?_ _) | (refine leB ?_; omega)))))).mono ?_
          rintro e W7 ⟨rfl, hb⟩
          obtain ⟨Ba, Bc, Bo, Bw, Bn, Bm⟩ : Blk W7 (W0.heap.size) [.int .i64 x1, .int .i64 x2, .int .i64 x3, .int .i64 y1, .int .i64 y2, .int .i64 y3] ∧ Blk W7 (W0.heap.size + 1) [.int .i64 c1, .int .i64 c2, .int .i64 c3] ∧ Blk W7 (W1.heap.size) [.int .i64 u1, .int .i64 u2, .int .i64 u3, .int .i64 v1, .int .i64 v2, .int .i64 v3] ∧ Blk W7 (W2.heap.size) [.int .i64 u1, .int .i64 u2, .int .i64 u3, .int .i64 v1, .int .i64 v2, .int .i64 v3] ∧ Blk W7 (W5.heap.size) [.int .i64 n1, .int .i64 n2, .int .i64 n3] ∧ Blk W7 (W6.heap.size) [.int .i64 m1, .int .i64 m2, .int .i64 m3] := by
            refine ⟨?_, ?_, ?_, ?_, ?_, ?_⟩ <;> refine Blk.keep hb ?_ <;> (repeat' (first | (with_reducible first | assumption | apply Blk.set | (refine Blk.new ?_; focus (first | rfl | (simp; done))) | refine Blk.alloc ?_ _ | refine Blk.other ?_ ?_ _) | exact eqL rfl | (refine neB ?_; omega)))
          have ca := Ba.cell
          have fa := Ba.free
          have la_W7 := Ba.lt
          have cc := Bc.cell
          have fc := Bc.free
          have lc_W7 := Bc.lt
          have co := Bo.cell
          have fo := Bo.free
          have lo_W7 := Bo.lt
          have cw := Bw.cell
          have fw := Bw.free
          have lw_W7 := Bw.lt
          have cn := Bn.cell
          have fn := Bn.free
          have ln_W7 := Bn.lt
          have cm := Bm.cell
          have fm := Bm.free
          have lm_W7 := Bm.lt
          have kaW7 : Acc w W7 := by
            refine Acc.call ?_ hb
            (repeat' (first | (with_reducible first | assumption | exact Acc.refl _ | refine Acc.alloc ?_ _ | refine Acc.setCell ?_ ?_ _) | (refine leB ?_; omega)))
          clear hb
          go_wp2_with fail
          cases ht : timesF m1 m2 m3 g1 g2 g3 with
          | none =>
           have HT := Lib.hid ht
           clear ht
           refine (gave_none HT.out (implTimes_any m1 m2 m3 g1 g2 g3 hm1 hm2 hm3 hg1 hg2 hg3 _ (HL.out _ (by repeat' (first | (with_reducible first | assumption | exact Acc.refl _ | refine Acc.alloc ?_ _ | refine Acc.setCell ?_ ?_ _) | (refine leB ?_; omega)))))).mono ?_
           rintro e W8 ⟨rfl, hb⟩
           obtain ⟨Ba, Bc, Bo, Bw, Bn, Bm, Bg⟩ : Blk W8 (W0.heap.size) [.int .i64 x1, .int .i64 x2, .int .i64 x3, .int .i64 y1, .int .i64 y2, .int .i64 y3] ∧ Blk W8 (W0.heap.size + 1) [.int .i64 c1, .int .i64 c2, .int .i64 c3] ∧ Blk W8 (W1.heap.size) [.int .i64 u1, .int .i64 u2, .int .i64 u3, .int .i64 v1, .int .i64 v2, .int .i64 v3] ∧ Blk W8 (W2.heap.size) [.int .i64 u1, .int .i64 u2, .int .i64 u3, .int .i64 v1, .int .i64 v2, .int .i64 v3] ∧ Blk W8 (W5.heap.size) [.int .i64 n1, .int .i64 n2, .int .i64 n3] ∧ Blk W8 (W6.heap.size) [.int .i64 m1, .int .i64 m2, .int .i64 m3] ∧ Blk W8 (W7.heap.size) [.int .i64 g1, .int .i64 g2, .int .i64 g3] := by
             refine ⟨?_, ?_, ?_, ?_, ?_, ?_, ?_⟩ <;> refine Blk.keep hb ?_ <;> (repeat' (first | (with_reducible first | assumption | apply Blk.set | (refine Blk.new ?_; focus (first | rfl | (simp; done))) | refine Blk.alloc ?_ _ | refine Blk.other ?_ ?_ _) | exact eqL rfl | (refine neB ?_; omega)))
           have ca := Ba.cell
           have fa := Ba.free
           have la_W8 := Ba.lt
           have cc := Bc.cell
           have fc := Bc.free
           have lc_W8 := Bc.lt
           have co := Bo.cell
           have fo := Bo.free
           have lo_W8 := Bo.lt
           have cw := Bw.cell
           have fw := Bw.free
           have lw_W8 := Bw.lt
           have cn := Bn.cell
           have fn := Bn.free
           have ln_W8 := Bn.lt
           have cm := Bm.cell
           have fm := Bm.free
           have lm_W8 := Bm.lt
           have cg := Bg.cell
           have fg := Bg.free
           have lg_W8 := Bg.lt
           have kaW8 : Acc w W8 := by
             refine Acc.call ?_ hb
             (repeat' (first | (with_reducible first | assumption | exact Acc.refl _ | refine Acc.alloc ?_ _ | refine Acc.setCell ?_ ?_ _) | (refine leB ?_; omega)))
           clear hb
           go_wp2_with fail
           all_goals
             go_ret
             refine ⟨by first | rfl | (simp [*]; done) | (simp [go_sem, *]; done), ?_⟩
             show Acc w _
             (repeat' (first | (with_reducible first | assumption | exact Acc.refl _ | refine Acc.alloc ?_ _ | refine Acc.setCell ?_ ?_ _) | (refine leB ?_; omega)))
          | some v =>
           obtain ⟨t1, t2, t3⟩ := v
           obtain ⟨ht1, ht2, ht3⟩ := okF_i64 (times_ok ht)
           have HT := Lib.hid ht
           clear ht
           refine (gave_some HT.out (implTimes_any m1 m2 m3 g1 g2 g3 hm1 hm2 hm3 hg1 hg2 hg3 _ (HL.out _ (by repeat' (first | (with_reducible first | assumption | exact Acc.refl _ | refine Acc.alloc ?_ _ | refine Acc.setCell ?_ ?_ _) | (refine leB ?_; omega)))))).mono ?_
           rintro e W8 ⟨rfl, hb⟩
           obtain ⟨Ba, Bc, Bo, Bw, Bn, Bm, Bg⟩ : Blk W8 (W0.heap.size) [.int .i64 x1, .int .i64 x2, .int .i64 x3, .int .i64 y1, .int .i64 y2, .int .i64 y3] ∧ Blk W8 (W0.heap.size + 1) [.int .i64 c1, .int .i64 c2, .int .i64 c3] ∧ Blk W8 (W1.heap.size) [.int .i64 u1, .int .i64 u2, .int .i64 u3, .int .i64 v1, .int .i64 v2, .int .i64 v3] ∧ Blk W8 (W2.heap.size) [.int .i64 u1, .int .i64 u2, .int .i64 u3, .int .i64 v1, .int .i64 v2, .int .i64 v3] ∧ Blk W8 (W5.heap.size) [.int .i64 n1, .int .i64 n2, .int .i64 n3] ∧ Blk W8 (W6.heap.size) [.int .i64 m1, .int .i64 m2, .int .i64 m3] ∧ Blk W8 (W7.heap.size) [.int .i64 g1, .int .i64 g2, .int .i64 g3] := by
             refine ⟨?_, ?_, ?_, ?_, ?_, ?_, ?_⟩ <;> refine Blk.keep hb ?_ <;> (repeat' (first | (with_reducible first | assumption | apply Blk.set | (refine Blk.new ?_; focus (first | rfl | (simp; done))) | refine Blk.alloc ?_ _ | refine Blk.other ?_ ?_ _) | exact eqL rfl | (refine neB ?_; omega)))
           have ca := Ba.cell
           have fa := Ba.free
           have la_W8 := Ba.lt
           have cc := Bc.cell
           have fc := Bc.free
           have lc_W8 := Bc.lt
           have co := Bo.cell
           have fo := Bo.free
           have lo_W8 := Bo.lt
           have cw := Bw.cell
           have fw := Bw.free
           have lw_W8 := Bw.lt
           have cn := Bn.cell
           have fn := Bn.free
           have ln_W8 := Bn.lt
           have cm := Bm.cell
           have fm := Bm.free
           have lm_W8 := Bm.lt
           have cg := Bg.cell
           have fg := Bg.free
           have lg_W8 := Bg.lt
           have kaW8 : Acc w W8 := by
             refine Acc.call ?_ hb
             (repeat' (first | (with_reducible first | assumption | exact Acc.refl _ | refine Acc.alloc ?_ _ | refine Acc.setCell ?_ ?_ _) | (refine leB ?_; omega)))
           clear hb
           go_wp2_with fail
           all_goals obtain ⟨⟩ := times_power HO.out HN.out HM.out HG.out HT.out
           all_goals try exact absurd rfl (by assumption)
           all_goals
             go_ret
             refine ⟨by first | rfl | (simp [*]; done) | (simp [go_sem, *]; done), ?_⟩
             show Acc w _
             (repeat' (first | (with_reducible first | assumption | exact Acc.refl _ | refine Acc.alloc ?_ _ | refine Acc.setCell ?_ ?_ _) | (refine leB ?_; omega)))
      | some v =>
       obtain ⟨q1, q2, q3⟩ := v
       have HQ := Lib.hid ht
       have HA := Lib.hid (times_alike HO.out (fun h => hz h.1) HP.out ht)
       clear ht
       refine (gave_some HQ.out (implTimes_any y1 y2 y3 u1 u2 u3 hy1 hy2 hy3 hu1 hu2 hu3 _ (HL.out _ (by repeat' (first | (with_reducible first | assumption | exact Acc.refl _ | refine Acc.alloc ?_ _ | refine Acc.setCell ?_ ?_ _) | (refine leB ?_; omega)))))).mono ?_
       rintro e W4 ⟨rfl, hb⟩
       obtain ⟨Ba, Bc, Bo, Bw⟩ : Blk W4 (W0.heap.size) [.int .i64 x1, .int .i64 x2, .int .i64 x3, .int .i64 y1, .int .i64 y2, .int .i64 y3] ∧ Blk W4 (W0.heap.size + 1) [.int .i64 c1, .int .i64 c2, .int .i64 c3] ∧ Blk W4 (W1.heap.size) [.int .i64 u1, .int .i64 u2, .int .i64 u3, .int .i64 v1, .int .i64 v2, .int .i64 v3] ∧ Blk W4 (W2.heap.size) [.int .i64 u1, .int .i64 u2, .int .i64 u3, .int .i64 v1, .int .i64 v2, .int .i64 v3] := by
         refine ⟨?_, ?_, ?_, ?_⟩ <;> refine Blk.keep hb ?_ <;> (repeat' (first | (with_reducible first | assumption | apply Blk.set | (refine Blk.new ?_; focus (first | rfl | (simp; done))) | refine Blk.alloc ?_ _ | refine Blk.other ?_ ?_ _) | exact eqL rfl | (refine neB ?_; omega)))
       have ca := Ba.cell
       have fa := Ba.free
       have la_W4 := Ba.lt
       have cc := Bc.cell
       have fc := Bc.free
       have lc_W4 := Bc.lt
       have co := Bo.cell
       have fo := Bo.free
       have lo_W4 := Bo.lt
       have cw := Bw.cell
       have fw := Bw.free
       have lw_W4 := Bw.lt
       have kaW4 : Acc w W4 := by
         refine Acc.call ?_ hb
         (repeat' (first | (with_reducible first | assumption | exact Acc.refl _ | refine Acc.alloc ?_ _ | refine Acc.setCell ?_ ?_ _) | (refine leB ?_; omega)))
       clear hb
       go_wp2_with fail
       cases ht : jpowF u1 u2 u3 v1 v2 v3 with
       | none =>
        have HN := Lib.hid ht
        clear ht
        refine (gave_none HN.out (implJPower_any u1 u2 u3 v1 v2 v3 hu1 hu2 hu3 hv1 hv2 hv3 _ (HL.out _ (by repeat' (first | (with_reducible first | assumption | exact Acc.refl _ | refine Acc.alloc ?_ _ | refine Acc.setCell ?_ ?_ _) | (refine leB ?_; omega)))))).mono ?_
        rintro e W5 ⟨rfl, hb⟩
        obtain ⟨Ba, Bc, Bo, Bw⟩ : Blk W5 (W0.heap.size) [.int .i64 x1, .int .i64 x2, .int .i64 x3, .int .i64 y1, .int .i64 y2, .int .i64 y3] ∧ Blk W5 (W0.heap.size + 1) [.int .i64 c1, .int .i64 c2, .int .i64 c3] ∧ Blk W5 (W1.heap.size) [.int .i64 u1, .int .i64 u2, .int .i64 u3, .int .i64 v1, .int .i64 v2, .int .i64 v3] ∧ Blk W5 (W2.heap.size) [.int .i64 u1, .int .i64 u2, .int .i64 u3, .int .i64 v1, .int .i64 v2, .int .i64 v3] := by
          refine ⟨?_, ?_, ?_, ?_⟩ <;> refine Blk.keep hb ?_ <;> (repeat' (first | (with_reducible first | assumption | apply Blk.set | (refine Blk.new ?_; focus (first | rfl | (simp; done))) | refine Blk.alloc ?_ _ | refine Blk.other ?_ ?_ _) | exact eqL rfl | (refine neB ?_; omega)))
        have ca := Ba.cell
        have fa := Ba.free
        have la_W5 := Ba.lt
        have cc := Bc.cell
        have fc := Bc.free
        have lc_W5 := Bc.lt
        have co := Bo.cell
        have fo := Bo.free
        have lo_W5 := Bo.lt
        have cw := Bw.cell
        have fw := Bw.free
        have lw_W5 := Bw.lt
        have kaW5 : Acc w W5 := by
          refine Acc.call ?_ hb
          (repeat' (first | (with_reducible first | assumption | exact Acc.refl _ | refine Acc.alloc ?_ _ | refine Acc.setCell ?_ ?_ _) | (refine leB ?_; omega)))
        clear hb
        go_wp2_with fail
        obtain ⟨⟨m1, m2, m3⟩, hv⟩ : ∃ o, partsR (jpowF x1 x2 x3 y1 y2 y3) = o := ⟨_, rfl⟩
        obtain ⟨km, hk⟩ : ∃ k, okR (jpowF x1 x2 x3 y1 y2 y3) = k := ⟨_, rfl⟩
        obtain ⟨hm1, hm2, hm3⟩ := parts_i64 (fun _ _ _ h => jpow_ok h) hv
        have HV := Lib.hid hv
        have HK := Lib.hid hk
        clear hv hk
        refine (gave_any HV.out HK.out (implJPower_any x1 x2 x3 y1 y2 y3 hx1 hx2 hx3 hy1 hy2 hy3 _ (HL.out _ (by repeat' (first | (with_reducible first | assumption | exact Acc.refl _ | refine Acc.alloc ?_ _ | refine Acc.setCell ?_ ?_ _) | (refine leB ?_; omega)))))).mono ?_
        rintro e W6 ⟨rfl, hb⟩
        obtain ⟨Ba, Bc, Bo, Bw, Bn⟩ : Blk W6 (W0.heap.size) [.int .i64 x1, .int .i64 x2, .int .i64 x3, .int .i64 y1, .int .i64 y2, .int .i64 y3] ∧ Blk W6 (W0.heap.size + 1) [.int .i64 c1, .int .i64 c2, .int .i64 c3] ∧ Blk W6 (W1.heap.size) [.int .i64 u1, .int .i64 u2, .int .i64 u3, .int .i64 v1, .int .i64 v2, .int .i64 v3] ∧ Blk W6 (W2.heap.size) [.int .i64 u1, .int .i64 u2, .int .i64 u3, .int .i64 v1, .int .i64 v2, .int .i64 v3] ∧ Blk W6 (W5.heap.size) [.int .i64 0, .int .i64 0, .int .i64 0] := by
          refine ⟨?_, ?_, ?_, ?_, ?_⟩ <;> refine Blk.keep hb ?_ <;> (repeat' (first | (with_reducible first | assumption | apply Blk.set | (refine Blk.new ?_; focus (first | rfl | (simp; done))) | refine Blk.alloc ?_ _ | refine Blk.other ?_ ?_ _) | exact eqL rfl | (refine neB ?_; omega)))
        have ca := Ba.cell
        have fa := Ba.free
        have la_W6 := Ba.lt
        have cc := Bc.cell
        have fc := Bc.free
        have lc_W6 := Bc.lt
        have co := Bo.cell
        have fo := Bo.free
        have lo_W6 := Bo.lt
        have cw := Bw.cell
        have fw := Bw.free
        have lw_W6 := Bw.lt
        have cn := Bn.cell
        have fn := Bn.free
        have ln_W6 := Bn.lt
        have kaW6 : Acc w W6 := by
          refine Acc.call ?_ hb
          (repeat' (first | (with_reducible first | assumption | exact Acc.refl _ | refine Acc.alloc ?_ _ | refine Acc.setCell ?_ ?_ _) | (refine leB ?_; omega)))
        clear hb
        go_wp2_with fail
        obtain ⟨⟨g1, g2, g3⟩, hv⟩ : ∃ o, partsR (powerF c1 c2 c3) = o := ⟨_, rfl⟩
        obtain ⟨kg, hk⟩ : ∃ k, okR (powerF c1 c2 c3) = k := ⟨_, rfl⟩
        obtain ⟨hg1, hg2, hg3⟩ := parts_i64 (fun _ _ _ h => power_ok h) hv
        have HV := Lib.hid hv
        have HK := Lib.hid hk
        clear hv hk
        refine (gave_any HV.out HK.out (implPower_any c1 c2 c3 hc1 hc2 hc3 _ (HL.out _ (by repeat' (first | (with_reducible first | assumption | exact Acc.refl _ | refine Acc.alloc ?_ _ | refine Acc.setCell ?_ ?_ _) | (refine leB ?_; omega)))))).mono ?_
        rintro e W7 ⟨rfl, hb⟩
        obtain ⟨Ba, Bc, Bo, Bw, Bn, Bm⟩ : Blk W7 (W0.heap.size) [.int .i64 x1, .int .i64 x2, .int .i64 x3, .int .i64 y1, .int .i64 y2, .int .i64 y3] ∧ Blk W7 (W0.heap.size + 1) [.int .i64 c1, .int .i64 c2, .int .i64 c3] ∧ Blk W7 (W1.heap.size) [.int .i64 u1, .int .i64 u2, .int .i64 u3, .int .i64 v1, .int .i64 v2, .int .i64 v3] ∧ Blk W7 (W2.heap.size) [.int .i64 u1, .int .i64 u2, .int .i64 u3, .int .i64 v1, .int .i64 v2, .int .i64 v3] ∧ Blk W7 (W5.heap.size) [.int .i64 0, .int .i64 0, .int .i64 0] ∧ Blk W7 (W6.heap.size) [.int .i64 m1, .int .i64 m2, .int .i64 m3] := by
          refine ⟨?_, ?_, ?_, ?_, ?_, ?_⟩ <;> refine Blk.keep hb ?_ <;> (repeat' (first | (with_reducible first | assumption | apply Blk.set | (refine Blk.new ?_; focus (first | rfl | (simp; done))) | refine Blk.alloc ?_ _ | refine Blk.other ?_ ?_ _) | exact eqL rfl | (refine neB ?_; omega)))
        have ca := Ba.cell
        have fa := Ba.free
        have la_W7 := Ba.lt
        have cc := Bc.cell
        have fc := Bc.free
        have lc_W7 := Bc.lt
        have co := Bo.cell
        have fo := Bo.free
        have lo_W7 := Bo.lt
        have cw := Bw.cell
        have fw := Bw.free
        have lw_W7 := Bw.lt
        have cn := Bn.cell
        have fn := Bn.free
        have ln_W7 := Bn.lt
        have cm := Bm.cell
        have fm := Bm.free
        have lm_W7 := Bm.lt
        have kaW7 : Acc w W7 := by
          refine Acc.call ?_ hb
          (repeat' (first | (with_reducible first | assumption | exact Acc.refl _ | refine Acc.alloc ?_ _ | refine Acc.setCell ?_ ?_ _) | (refine leB ?_; omega)))
        clear hb
        go_wp2_with fail
        obtain ⟨⟨t1, t2, t3⟩, hv⟩ : ∃ o, partsR (timesF m1 m2 m3 g1 g2 g3) = o := ⟨_, rfl⟩
        obtain ⟨kt, hk⟩ : ∃ k, okR (timesF m1 m2 m3 g1 g2 g3) = k := ⟨_, rfl⟩
        obtain ⟨ht1, ht2, ht3⟩ := parts_i64 (fun _ _ _ h => times_ok h) hv
        have HV := Lib.hid hv
        have HK := Lib.hid hk
        clear hv hk
        refine (gave_any HV.out HK.out (implTimes_any m1 m2 m3 g1 g2 g3 hm1 hm2 hm3 hg1 hg2 hg3 _ (HL.out _ (by repeat' (first | (with_reducible first | assumption | exact Acc.refl _ | refine Acc.alloc ?_ _ | refine Acc.setCell ?_ ?_ _) | (refine leB ?_; omega)))))).mono ?_
        rintro e W8 ⟨rfl, hb⟩
        obtain ⟨Ba, Bc, Bo, Bw, Bn, Bm, Bg⟩ : Blk W8 (W0.heap.size) [.int .i64 x1, .int .i64 x2, .int .i64 x3, .int .i64 y1, .int .i64 y2, .int .i64 y3] ∧ Blk W8 (W0.heap.size + 1) [.int .i64 c1, .int .i64 c2, .int .i64 c3] ∧ Blk W8 (W1.heap.size) [.int .i64 u1, .int .i64 u2, .int .i64 u3, .int .i64 v1, .int .i64 v2, .int .i64 v3] ∧ Blk W8 (W2.heap.size) [.int .i64 u1, .int .i64 u2, .int .i64 u3, .int .i64 v1, .int .i64 v2, .int .i64 v3] ∧ Blk W8 (W5.heap.size) [.int .i64 0, .int .i64 0, .int .i64 0] ∧ Blk W8 (W6.heap.size) [.int .i64 m1, .int .i64 m2, .int .i64 m3] ∧ Blk W8 (W7.heap.size) [.int .i64 g1, .int .i64 g2, .int .i64 g3] := by
          refine ⟨?_, ?_, ?_, ?_, ?_, ?_, ?_⟩ <;> refine Blk.keep hb ?_ <;> (repeat' (first | (with_reducible first | assumption | apply Blk.set | (refine Blk.new ?_; focus (first | rfl | (simp; done))) | refine Blk.alloc ?_ _ | refine Blk.other ?_ ?_ _) | exact eqL rfl | (refine neB ?_; omega)))
        have ca := Ba.cell
        have fa := Ba.free
        have la_W8 := Ba.lt
        have cc := Bc.cell
        have fc := Bc.free
        have lc_W8 := Bc.lt
        have co := Bo.cell
        have fo := Bo.free
        have lo_W8 := Bo.lt
        have cw := Bw.cell
        have fw := Bw.free
        have lw_W8 := Bw.lt
        have cn := Bn.cell
        have fn := Bn.free
        have ln_W8 := Bn.lt
        have cm := Bm.cell
        have fm := Bm.free
        have lm_W8 := Bm.lt
        have cg := Bg.cell
        have fg := Bg.free
        have lg_W8 := Bg.lt
        have kaW8 : Acc w W8 := by
          refine Acc.call ?_ hb
          (repeat' (first | (with_reducible first | assumption | exact Acc.refl _ | refine Acc.alloc ?_ _ | refine Acc.setCell ?_ ?_ _) | (refine leB ?_; omega)))
        clear hb
        go_wp2_with fail
        refine (valid_at HA.out (implJAlike_any x1 x2 x3 y1 y2 y3 u1 u2 u3 v1 v2 v3 hx1 hx2 hx3 hy1 hy2 hy3 hu1 hu2 hu3 hv1 hv2 hv3 _ (HL.out _ (by repeat' (first | (with_reducible first | assumption | exact Acc.refl _ | refine Acc.alloc ?_ _ | refine Acc.setCell ?_ ?_ _) | (refine leB ?_; omega)))))).mono ?_
        rintro e W9 ⟨rfl, hb⟩
        obtain ⟨Ba, Bc, Bo, Bw, Bn, Bm, Bg, Bt⟩ : Blk W9 (W0.heap.size) [.int .i64 x1, .int .i64 x2, .int .i64 x3, .int .i64 y1, .int .i64 y2, .int .i64 y3] ∧ Blk W9 (W0.heap.size + 1) [.int .i64 c1, .int .i64 c2, .int .i64 c3] ∧ Blk W9 (W1.heap.size) [.int .i64 u1, .int .i64 u2, .int .i64 u3, .int .i64 v1, .int .i64 v2, .int .i64 v3] ∧ Blk W9 (W2.heap.size) [.int .i64 u1, .int .i64 u2, .int .i64 u3, .int .i64 v1, .int .i64 v2, .int .i64 v3] ∧ Blk W9 (W5.heap.size) [.int .i64 0, .int .i64 0, .int .i64 0] ∧ Blk W9 (W6.heap.size) [.int .i64 m1, .int .i64 m2, .int .i64 m3] ∧ Blk W9 (W7.heap.size) [.int .i64 g1, .int .i64 g2, .int .i64 g3] ∧ Blk W9 (W8.heap.size) [.int .i64 t1, .int .i64 t2, .int .i64 t3] := by
          refine ⟨?_, ?_, ?_, ?_, ?_, ?_, ?_, ?_⟩ <;> refine Blk.keep hb ?_ <;> (repeat' (first | (with_reducible first | assumption | apply Blk.set | (refine Blk.new ?_; focus (first | rfl | (simp; done))) | refine Blk.alloc ?_ _ | refine Blk.other ?_ ?_ _) | exact eqL rfl | (refine neB ?_; omega)))
        have ca := Ba.cell
        have fa := Ba.free
        have la_W9 := Ba.lt
        have cc := Bc.cell
        have fc := Bc.free
        have lc_W9 := Bc.lt
        have co := Bo.cell
        have fo := Bo.free
        have lo_W9 := Bo.lt
        have cw := Bw.cell
        have fw := Bw.free
        have lw_W9 := Bw.lt
        have cn := Bn.cell
        have fn := Bn.free
        have ln_W9 := Bn.lt
        have cm := Bm.cell
        have fm := Bm.free
        have lm_W9 := Bm.lt
        have cg := Bg.cell
        have fg := Bg.free
        have lg_W9 := Bg.lt
        have ct := Bt.cell
        have ft := Bt.free
        have lt_W9 := Bt.lt
        have kaW9 : Acc w W9 := by
          refine Acc.call ?_ hb
          (repeat' (first | (with_reducible first | assumption | exact Acc.refl _ | refine Acc.alloc ?_ _ | refine Acc.setCell ?_ ?_ _) | (refine leB ?_; omega)))
        clear hb
        go_wp2_with fail
        all_goals
          go_ret
          refine ⟨by first | rfl | (simp [*]; done) | (simp [go_sem, *]; done), ?_⟩
          show Acc w _
          (repeat' (first | (with_reducible first | assumption | exact Acc.refl _ | refine Acc.alloc ?_ _ | refine Acc.setCell ?_ ?_ _) | (refine leB ?_; omega)))
       | some v =>
        obtain ⟨n1, n2, n3⟩ := v
        obtain ⟨hn1, hn2, hn3⟩ := okF_i64 (jpow_ok ht)
        have HN := Lib.hid ht
        clear ht
        refine (gave_some HN.out (implJPower_any u1 u2 u3 v1 v2 v3 hu1 hu2 hu3 hv1 hv2 hv3 _ (HL.out _ (by repeat' (first | (with_reducible first | assumption | exact Acc.refl _ | refine Acc.alloc ?_ _ | refine Acc.setCell ?_ ?_ _) | (refine leB ?_; omega)))))).mono ?_
        rintro e W5 ⟨rfl, hb⟩
        obtain ⟨Ba, Bc, Bo, Bw⟩ : Blk W5 (W0.heap.size) [.int .i64 x1, .int .i64 x2, .int .i64 x3, .int .i64 y1, .int .i64 y2, .int .i64 y3] ∧ Blk W5 (W0.heap.size + 1) [.int .i64 c1, .int .i64 c2, .int .i64 c3] ∧ Blk W5 (W1.heap.size) [.int .i64 u1, .int .i64 u2, .int .i64 u3, .int .i64 v1, .int .i64 v2, .int .i64 v3] ∧ Blk W5 (W2.heap.size) [.int .i64 u1, .int .i64 u2, .int .i64 u3, .int .i64 v1, .int .i64 v2, .int .i64 v3] := by
          refine ⟨?_, ?_, ?_, ?_⟩ <;> refine Blk.keep hb ?_ <;> (repeat' (first | (with_reducible first | assumption | apply Blk.set | (refine Blk.new ?_; focus (first | rfl | (simp; done))) | refine Blk.alloc ?_ _ | refine Blk.other ?_ ?_ _) | exact eqL rfl | (refine neB ?_; omega)))
        have ca := Ba.cell
        have fa := Ba.free
        have la_W5 := Ba.lt
        have cc := Bc.cell
        have fc := Bc.free
        have lc_W5 := Bc.lt
        have co := Bo.cell
        have fo := Bo.free
        have lo_W5 := Bo.lt
        have cw := Bw.cell
        have fw := Bw.free
        have lw_W5 := Bw.lt
        have kaW5 : Acc w W5 := by
          refine Acc.call ?_ hb
          (repeat' (first | (with_reducible first | assumption | exact Acc.refl _ | refine Acc.alloc ?_ _ | refine Acc.setCell ?_ ?_ _) | (refine leB ?_; omega)))
        clear hb
        go_wp2_with fail
        cases ht : jpowF x1 x2 x3 y1 y2 y3 with
        | none =>
         have HM := Lib.hid ht
         clear ht
         refine (gave_none HM.out (implJPower_any x1 x2 x3 y1 y2 y3 hx1 hx2 hx3 hy1 hy2 hy3 _ (HL.out _ (by repeat' (first | (with_reducible first | assumption | exact Acc.refl _ | refine Acc.alloc ?_ _ | refine Acc.setCell ?_ ?_ _) | (refine leB ?_; omega)))))).mono ?_
         rintro e W6 ⟨rfl, hb⟩
         obtain ⟨Ba, Bc, Bo, Bw, Bn⟩ : Blk W6 (W0.heap.size) [.int .i64 x1, .int .i64 x2, .int .i64 x3, .int .i64 y1, .int .i64 y2, .int .i64 y3] ∧ Blk W6 (W0.heap.size + 1) [.int .i64 c1, .int .i64 c2, .int .i64 c3] ∧ Blk W6 (W1.heap.size) [.int .i64 u1, .int .i64 u2, .int .i64 u3, .int .i64 v1, .int .i64 v2, .int .i64 v3] ∧ Blk W6 (W2.heap.size) [.int .i64 u1, .int .i64 u2, .int .i64 u3, .int .i64 v1, .int .i64 v2, .int .i64 v3] ∧ Blk W6 (W5.heap.size) [.int .i64 n1, .int .i64 n2, .int .i64 n3] := by
           refine ⟨?_, ?_, ?_, ?_, ?_⟩ <;> refine Blk.keep hb ?_ <;> (repeat' (first | (with_reducible first | assumption | apply Blk.set | (refine Blk.new ?_; focus (first | rfl | (simp; done))) | refine Blk.alloc ?_ _ | refine Blk.other ?_ ?_ _) | exact eqL rfl | (refine neB ?_; omega)))
         have ca := Ba.cell
         have fa := Ba.free
         have la_W6 := Ba.lt
         have cc := Bc.cell
         have fc := Bc.free
         have lc_W6 := Bc.lt
         have co := Bo.cell
         have fo := Bo.free
         have lo_W6 := Bo.lt
         have cw := Bw.cell
         have fw := Bw.free
         have lw_W6 := Bw.lt
         have cn := Bn.cell
         have fn := Bn.free
         have ln_W6 := Bn.lt
         have kaW6 : Acc w W6 := by
           refine Acc.call ?_ hb
           (repeat' (first | (with_reducible first | assumption | exact Acc.refl _ | refine Acc.alloc ?_ _ | refine Acc.setCell ?_ ?_ _) | (refine leB ?_; omega)))
         clear hb
         go_wp2_with fail
         obtain ⟨⟨g1, g2, g3⟩, hv⟩ : ∃ o, partsR (powerF c1 c2 c3) = o := ⟨_, rfl⟩
         obtain ⟨kg, hk⟩ : ∃ k, okR (powerF c1 c2 c3) = k := ⟨_, rfl⟩
         obtain ⟨hg1, hg2, hg3⟩ := parts_i64 (fun _ _ _ h => power_ok h) hv
         have HV := Lib.hid hv
         have HK := Lib.hid hk
         clear hv hk
         refine (gave_any HV.out HK.out (implPower_any c1 c2 c3 hc1 hc2 hc3 _ (HL.out _ (by repeat' (first | (with_reducible first | assumption | exact Acc.refl _ | refine Acc.alloc ?_ _ | refine Acc.setCell ?_ ?_ _) | (refine leB ?_; omega)))))).mono ?_
         rintro e W7 ⟨rfl, hb⟩
         obtain ⟨Ba, Bc, Bo, Bw, Bn, Bm⟩ : Blk W7 (W0.heap.size) [.int .i64 x1, .int .i64 x2, .int .i64 x3, .int .i64 y1, .int .i64 y2, .int .i64 y3] ∧ Blk W7 (W0.heap.size + 1) [.int .i64 c1, .int .i64 c2, .int .i64 c3] ∧ Blk W7 (W1.heap.size) [.int .i64 u1, .int .i64 u2, .int .i64 u3, .int .i64 v1, .int .i64 v2, .int .i64 v3] ∧ Blk W7 (W2.heap.size) [.int .i64 u1, .int .i64 u2, .int .i64 u3, .int .i64 v1, .int .i64 v2, .int .i64 v3] ∧ Blk W7 (W5.heap.size) [.int .i64 n1, .int .i64 n2, .int .i64 n3] ∧ Blk W7 (W6.heap.size) [.int .i64 0, .int .i64 0, .int .i64 0] := by
           refine ⟨?_, ?_, ?_, ?_, ?_, ?_⟩ <;> refine Blk.keep hb ?_ <;> (repeat' (first | (with_reducible first | assumption | apply Blk.set | (refine Blk.new ?_; focus (first | rfl | (simp; done))) | refine Blk.alloc ?_ _ | refine Blk.other ?_ ?_ _) | exact eqL rfl | (refine neB ?_; omega)))
         have ca := Ba.cell
         have fa := Ba.free
         have la_W7 := Ba.lt
         have cc := Bc.cell
         have fc := Bc.free
         have lc_W7 := Bc.lt
         have co := Bo.cell
         have fo := Bo.free
         have lo_W7 := Bo.lt
         have cw := Bw.cell
         have fw := Bw.free
         have lw_W7 := Bw.lt
         have cn := Bn.cell
         have fn := Bn.free
         have ln_W7 := Bn.lt
         have cm := Bm.cell
         have fm := Bm.free
         have lm_W7 := Bm.lt
         have kaW7 : Acc w W7 := by
           refine Acc.call ?_ hb
           (repeat' (first | (with_reducible first | assumption | exact Acc.refl _ | refine Acc.alloc ?_ _ | refine Acc.setCell ?_ ?_ _) | (refine leB ?_; omega)))
         clear hb
         go_wp2_with fail
         obtain ⟨⟨t1, t2, t3⟩, hv⟩ : ∃ o, partsR (timesF 0 0 0 g1 g2 g3) = o := ⟨_, rfl⟩
         obtain ⟨kt, hk⟩ : ∃ k, okR (timesF 0 0 0 g1 g2 g3) = k := ⟨_, rfl⟩
         obtain ⟨ht1, ht2, ht3⟩ := parts_i64 (fun _ _ _ h => times_ok h) hv
         have HV := Lib.hid hv
         have HK := Lib.hid hk
         clear hv hk
         refine (gave_any HV.out HK.out (implTimes_any 0 0 0 g1 g2 g3 i64_0 i64_0 i64_0 hg1 hg2 hg3 _ (HL.out _ (by repeat' (first | (with_reducible first | assumption | exact Acc.refl _ | refine Acc.alloc ?_ _ | refine Acc.setCell ?_ ?_ _) | (refine leB ?_; omega)))))).mono ?_
         rintro e W8 ⟨rfl, hb⟩
         obtain ⟨Ba, Bc, Bo, Bw, Bn, Bm, Bg⟩ : Blk W8 (W0.heap.size) [.int .i64 x1, .int .i64 x2, .int .i64 x3, .int .i64 y1, .int .i64 y2, .int .i64 y3] ∧ Blk W8 (W0.heap.size + 1) [.int .i64 c1, .int .i64 c2, .int .i64 c3] ∧ Blk W8 (W1.heap.size) [.int .i64 u1, .int .i64 u2, .int .i64 u3, .int .i64 v1, .int .i64 v2, .int .i64 v3] ∧ Blk W8 (W2.heap.size) [.int .i64 u1, .int .i64 u2, .int .i64 u3, .int .i64 v1, .int .i64 v2, .int .i64 v3] ∧ Blk W8 (W5.heap.size) [.int .i64 n1, .int .i64 n2, .int .i64 n3] ∧ Blk W8 (W6.heap.size) [.int .i64 0, .int .i64 0, .int .i64 0] ∧ Blk W8 (W7.heap.size) [.int .i64 g1, .int .i64 g2, .int .i64 g3] := by
           refine ⟨?_, ?_, ?_, ?_, ?_, ?_, ?_⟩ <;> refine Blk.keep hb ?_ <;> (repeat' (first | (with_reducible first | assumption | apply Blk.set | (refine Blk.new ?_; focus (first | rfl | (simp; done))) | refine Blk.alloc ?_ _ | refine Blk.other ?_ ?_ _) | exact eqL rfl | (refine neB ?_; omega)))
         have ca := Ba.cell
         have fa := Ba.free
         have la_W8 := Ba.lt
         have cc := Bc.cell
         have fc := Bc.free
         have lc_W8 := Bc.lt
         have co := Bo.cell
         have fo := Bo.free
         have lo_W8 := Bo.lt
         have cw := Bw.cell
         have fw := Bw.free
         have lw_W8 := Bw.lt
         have cn := Bn.cell
         have fn := Bn.free
         have ln_W8 := Bn.lt
         have cm := Bm.cell
         have fm := Bm.free
         have lm_W8 := Bm.lt
         have cg := Bg.cell
         have fg := Bg.free
         have lg_W8 := Bg.lt
         have kaW8 : Acc w W8 := by
           refine Acc.call ?_ hb
           (repeat' (first | (with_reducible first | assumption | exact Acc.refl _ | refine Acc.alloc ?_ _ | refine Acc.setCell ?_ ?_ _) | (refine leB ?_; omega)))
         clear hb
         go_wp2_with fail
         refine (valid_at HA.out (implJAlike_any x1 x2 x3 y1 y2 y3 u1 u2 u3 v1 v2 v3 hx1 hx2 hx3 hy1 hy2 hy3 hu1 hu2 hu3 hv1 hv2 hv3 _ (HL.out _ (by repeat' (first | (with_reducible first | assumption | exact Acc.refl _ | refine Acc.alloc ?_ _ | refine Acc.setCell ?_ ?_ _) | (refine leB ?_; omega)))))).mono ?_
         rintro e W9 ⟨rfl, hb⟩
         obtain ⟨Ba, Bc, Bo, Bw, Bn, Bm, Bg, Bt⟩ : Blk W9 (W0.heap.size) [.int .i64 x1, .int .i64 x2, .int .i64 x3, .int .i64 y1, .int .i64 y2, .int .i64 y3] ∧ Blk W9 (W0.heap.size + 1) [.int .i64 c1, .int .i64 c2, .int .i64 c3] ∧ Blk W9 (W1.heap.size) [.int .i64 u1, .int .i64 u2, .int .i64 u3, .int .i64 v1, .int .i64 v2, .int .i64 v3] ∧ Blk W9 (W2.heap.size) [.int .i64 u1, .int .i64 u2, .int .i64 u3, .int .i64 v1, .int .i64 v2, .int .i64 v3] ∧ Blk W9 (W5.heap.size) [.int .i64 n1, .int .i64 n2, .int .i64 n3] ∧ Blk W9 (W6.heap.size) [.int .i64 0, .int .i64 0, .int .i64 0] ∧ Blk W9 (W7.heap.size) [.int .i64 g1, .int .i64 g2, .int .i64 g3] ∧ Blk W9 (W8.heap.size) [.int .i64 t1, .int .i64 t2, .int .i64 t3] := by
           refine ⟨?_, ?_, ?_, ?_, ?_, ?_, ?_, ?_⟩ <;> refine Blk.keep hb ?_ <;> (repeat' (first | (with_reducible first | assumption | apply Blk.set | (refine Blk.new ?_; focus (first | rfl | (simp; done))) | refine Blk.alloc ?_ _ | refine Blk.other ?_ ?_ _) | exact eqL rfl | (refine neB ?_; omega)))
         have ca := Ba.cell
         have fa := Ba.free
         have la_W9 := Ba.lt
         have cc := Bc.cell
         have fc := Bc.free
         have lc_W9 := Bc.lt
         have co := Bo.cell
         have fo := Bo.free
         have lo_W9 := Bo.lt
         have cw := Bw.cell
         have fw := Bw.free
         have lw_W9 := Bw.lt
         have cn := Bn.cell
         have fn := Bn.free
         have ln_W9 := Bn.lt
         have cm := Bm.cell
         have fm := Bm.free
         have lm_W9 := Bm.lt
         have cg := Bg.cell
         have fg := Bg.free
         have lg_W9 := Bg.lt
         have ct := Bt.cell
         have ft := Bt.free
         have lt_W9 := Bt.lt
         have kaW9 : Acc w W9 := by
           refine Acc.call ?_ hb
           (repeat' (first | (with_reducible first | assumption | exact Acc.refl _ | refine Acc.alloc ?_ _ | refine Acc.setCell ?_ ?_ _) | (refine leB ?_; omega)))
         clear hb
         go_wp2_with fail
         all_goals
           go_ret
           refine ⟨by first | rfl | (simp [*]; done) | (simp [go_sem, *]; done), ?_⟩
           show Acc w _
           (repeat' (first | (with_reducible first | assumption | exact Acc.refl _ | refine Acc.alloc ?_ _ | refine Acc.setCell ?_ ?_ _) | (refine leB ?_; omega)))
        | some v =>
         obtain ⟨m1, m2, m3⟩ := v
         obtain ⟨hm1, hm2, hm3⟩ := okF_i64 (jpow_ok ht)
         have HM := Lib.hid ht
         clear ht
         refine (gave_some HM.out (implJPower_any x1 x2 x3 y1 y2 y3 hx1 hx2 hx3 hy1 hy2 hy3 _ (HL.out _ (by repeat' (first | (with_reducible first | assumption | exact Acc.refl _ | refine Acc.alloc ?_ _ | refine Acc.setCell ?_ ?_ _) | (refine leB ?_; omega)))))).mono ?_
         rintro e W6 ⟨rfl, hb⟩
         obtain ⟨Ba, Bc, Bo, Bw, Bn⟩ : Blk W6 (W0.heap.size) [.int .i64 x1, .int .i64 x2, .int .i64 x3, .int .i64 y1, .int .i64 y2, .int .i64 y3] ∧ Blk W6 (W0.heap.size + 1) [.int .i64 c1, .int .i64 c2, .int .i64 c3] ∧ Blk W6 (W1.heap.size) [.int .i64 u1, .int .i64 u2, .int .i64 u3, .int .i64 v1, .int .i64 v2, .int .i64 v3] ∧ Blk W6 (W2.heap.size) [.int .i64 u1, .int .i64 u2, .int .i64 u3, .int .i64 v1, .int .i64 v2, .int .i64 v3] ∧ Blk W6 (W5.heap.size) [.int .i64 n1, .int .i64 n2, .int .i64 n3] := by
           refine ⟨?_, ?_, ?_, ?_, ?_⟩ <;> refine Blk.keep hb ?_ <;> (repeat' (first | (with_reducible first | assumption | apply Blk.set | (refine Blk.new ?_; focus (first | rfl | (simp; done))) | refine Blk.alloc ?_ _ | refine Blk.other ?_ ?_ _) | exact eqL rfl | (refine neB ?_; omega)))
         have ca := Ba.cell
         have fa := Ba.free
         have la_W6 := Ba.lt
         have cc := Bc.cell
         have fc := Bc.free
         have lc_W6 := Bc.lt
         have co := Bo.cell
         have fo := Bo.free
         have lo_W6 := Bo.lt
         have cw := Bw.cell
         have fw := Bw.free
         have lw_W6 := Bw.lt
         have cn := Bn.cell
         have fn := Bn.free
         have ln_W6 := Bn.lt
         have kaW6 : Acc w W6 := by
           refine Acc.call ?_ hb
           (repeat' (first | (with_reducible first | assumption | exact Acc.refl _ | refine Acc.alloc ?_ _ | refine Acc.setCell ?_ ?_ _) | (refine leB ?_; omega)))
         clear hb
         go_wp2_with fail
         cases ht : powerF c1 c2 c3 with
         | none =>
          have HG := Lib.hid ht
          clear ht
          refine (gave_none HG.out (implPower_any c1 c2 c3 hc1 hc2 hc3 _ (HL.out _ (by repeat' (first | (with_reducible first | assumption | exact Acc.refl _ | refine Acc.alloc ?_ _ | refine Acc.setCell ?_ ?_ _) | (refine leB ?_; omega)))))).mono ?_
          rintro e W7 ⟨rfl, hb⟩
          obtain ⟨Ba, Bc, Bo, Bw, Bn, Bm⟩ : Blk W7 (W0.heap.size) [.int .i64 x1, .int .i64 x2, .int .i64 x3, .int .i64 y1, .int .i64 y2, .int .i64 y3] ∧ Blk W7 (W0.heap.size + 1) [.int .i64 c1, .int .i64 c2, .int .i64 c3] ∧ Blk W7 (W1.heap.size) [.int .i64 u1, .int .i64 u2, .int .i64 u3, .int .i64 v1, .int .i64 v2, .int .i64 v3] ∧ Blk W7 (W2.heap.size) [.int .i64 u1, .int .i64 u2, .int .i64 u3, .int .i64 v1, .int .i64 v2, .int .i64 v3] ∧ Blk W7 (W5.heap.size) [.int .i64 n1, .int .i64 n2, .int .i64 n3] ∧ Blk W7 (W6.heap.size) [.int .i64 m1, .int .i64 m2, .int .i64 m3] := by
            refine ⟨?_, ?_, ?_, ?_, ?_, ?_⟩ <;> refine Blk.keep hb ?_ <;> (repeat' (first | (with_reducible first | assumption | apply Blk.set | (refine Blk.new ?_; focus (first | rfl | (simp; done))) | refine Blk.alloc ?_ _ | refine Blk.other ?_ ?_ _) | exact eqL rfl | (refine neB ?_; omega)))
          have ca := Ba.cell
          have fa := Ba.free
          have la_W7 := Ba.lt
          have cc := Bc.cell
          have fc := Bc.free
          have lc_W7 := Bc.lt
          have co := Bo.cell
          have fo := Bo.free
          have lo_W7 := Bo.lt
          have cw := Bw.cell
          have fw := Bw.free
          have lw_W7 := Bw.lt
          have cn := Bn.cell
          have fn := Bn.free
          have ln_W7 := Bn.lt
          have cm := Bm.cell
          have fm := Bm.free
          have lm_W7 := Bm.lt
          have kaW7 : Acc w W7 := by
            refine Acc.call ?_ hb
            (repeat' (first | (with_reducible first | assumption | exact Acc.refl _ | refine Acc.alloc ?_ _ | refine Acc.setCell ?_ ?_ _) | (refine leB ?_; omega)))
          clear hb
          go_wp2_with fail
          obtain ⟨⟨t1, t2, t3⟩, hv⟩ : ∃ o, partsR (timesF m1 m2 m3 0 0 0) = o := ⟨_, rfl⟩
          obtain ⟨kt, hk⟩ : ∃ k, okR (timesF m1 m2 m3 0 0 0) = k := ⟨_, rfl⟩
          obtain ⟨ht1, ht2, ht3⟩ := parts_i64 (fun _ _ _ h => times_ok h) hv
          have HV := Lib.hid hv
          have HK := Lib.hid hk
          clear hv hk
          refine (gave_any HV.out HK.out (implTimes_any m1 m2 m3 0 0 0 hm1 hm2 hm3 i64_0 i64_0 i64_0 _ (HL.out _ (by repeat' (first | (with_reducible first | assumption | exact Acc.refl _ | refine Acc.alloc ?_ _ | refine Acc.setCell ?_ ?_ _) | (refine leB ?_; omega)))))).mono ?_
          rintro e W8 ⟨rfl, hb⟩
          obtain ⟨Ba, Bc, Bo, Bw, Bn, Bm, Bg⟩ : Blk W8 (W0.heap.size) [.int .i64 x1, .int .i64 x2, .int .i64 x3, .int .i64 y1, .int .i64 y2, .int .i64 y3] ∧ Blk W8 (W0.heap.size + 1) [.int .i64 c1, .int .i64 c2, .int .i64 c3] ∧ Blk W8 (W1.heap.size) [.int .i64 u1, .int .i64 u2, .int .i64 u3, .int .i64 v1, .int .i64 v2, .int .i64 v3] ∧ Blk W8 (W2.heap.size) [.int .i64 u1, .int .i64 u2, .int .i64 u3, .int .i64 v1, .int .i64 v2, .int .i64 v3] ∧ Blk W8 (W5.heap.size) [.int .i64 n1, .int .i64 n2, .int .i64 n3] ∧ Blk W8 (W6.heap.size) [.int .i64 m1, .int .i64 m2, .int .i64 m3] ∧ Blk W8 (W7.heap.size) [.int .i64 0, .int .i64 0, .int .i64 0] := by
            refine ⟨?_, ?_, ?_, ?_, ?_, ?_, ?_⟩ <;> refine Blk.keep hb ?_ <;> (repeat' (first | (with_reducible first | assumption | apply Blk.set | (refine Blk.new ?_; focus (first | rfl | (simp; done))) | refine Blk.alloc ?_ _ | refine Blk.other ?_ ?_ _) | exact eqL rfl | (refine neB ?_; omega)))
          have ca := Ba.cell
          have fa := Ba.free
          have la_W8 := Ba.lt
          have cc := Bc.cell
          have fc := Bc.free
          have lc_W8 := Bc.lt
          have co := Bo.cell
          have fo := Bo.free
          have lo_W8 := Bo.lt
          have cw := Bw.cell
          have fw := Bw.free
          have lw_W8 := Bw.lt
          have cn := Bn.cell
          have fn := Bn.free
          have ln_W8 := Bn.lt
          have cm := Bm.cell
          have fm := Bm.free
          have lm_W8 := Bm.lt
          have cg := Bg.cell
          have fg := Bg.free
          have lg_W8 := Bg.lt
          have kaW8 : Acc w W8 := by
            refine Acc.call ?_ hb
            (repeat' (first | (with_reducible first | assumption | exact Acc.refl _ | refine Acc.alloc ?_ _ | refine Acc.setCell ?_ ?_ _) | (refine leB ?_; omega)))
          clear hb
          go_wp2_with fail
          refine (valid_at HA.out (implJAlike_any x1 x2 x3 y1 y2 y3 u1 u2 u3 v1 v2 v3 hx1 hx2 hx3 hy1 hy2 hy3 hu1 hu2 hu3 hv1 hv2 hv3 _ (HL.out _ (by repeat' (first | (with_reducible first | assumption | exact Acc.refl _ | refine Acc.alloc ?_ _ | refine Acc.setCell ?_ ?_ _) | (refine leB ?_; omega)))))).mono ?_
          rintro e W9 ⟨rfl, hb⟩
          obtain ⟨Ba, Bc, Bo, Bw, Bn, Bm, Bg, Bt⟩ : Blk W9 (W0.heap.size) [.int .i64 x1, .int .i64 x2, .int .i64 x3, .int .i64 y1, .int .i64 y2, .int .i64 y3] ∧ Blk W9 (W0.heap.size + 1) [.int .i64 c1, .int .i64 c2, .int .i64 c3] ∧ Blk W9 (W1.heap.size) [.int .i64 u1, .int .i64 u2, .int .i64 u3, .int .i64 v1, .int .i64 v2, .int .i64 v3] ∧ Blk W9 (W2.heap.size) [.int .i64 u1, .int .i64 u2, .int .i64 u3, .int .i64 v1, .int .i64 v2, .int .i64 v3] ∧ Blk W9 (W5.heap.size) [.int .i64 n1, .int .i64 n2, .int .i64 n3] ∧ Blk W9 (W6.heap.size) [.int .i64 m1, .int .i64 m2, .int .i64 m3] ∧ Blk W9 (W7.heap.size) [.int .i64 0, .int .i64 0, .int .i64 0] ∧ Blk W9 (W8.heap.size) [.int .i64 t1, .int .i64 t2, .int .i64 t3] := by
            refine ⟨?_, ?_, ?_, ?_, ?_, ?_, ?_, ?_⟩ <;> refine Blk.keep hb ?_ <;> (repeat' (first | (with_reducible first | assumption | apply Blk.set | (refine Blk.new ?_; focus (first | rfl | (simp; done))) | refine Blk.alloc ?_ _ | refine Blk.other ?_ ?_ _) | exact eqL rfl | (refine neB ?_; omega)))
          have ca := Ba.cell
          have fa := Ba.free
          have la_W9 := Ba.lt
          have cc := Bc.cell
          have fc := Bc.free
          have lc_W9 := Bc.lt
          have co := Bo.cell
          have fo := Bo.free
          have lo_W9 := Bo.lt
          have cw := Bw.cell
          have fw := Bw.free
          have lw_W9 := Bw.lt
          have cn := Bn.cell
          have fn := Bn.free
          have ln_W9 := Bn.lt
          have cm := Bm.cell
          have fm := Bm.free
          have lm_W9 := Bm.lt
          have cg := Bg.cell
          have fg := Bg.free
          have lg_W9 := Bg.lt
          have ct := Bt.cell
          have ft := Bt.free
          have lt_W9 := Bt.lt
          have kaW9 : Acc w W9 := by
            refine Acc.call ?_ hb
            (repeat' (first | (with_reducible first | assumption | exact Acc.refl _ | refine Acc.alloc ?_ _ | refine Acc.setCell ?_ ?_ _) | (refine leB ?_; omega)))
          clear hb
          go_wp2_with fail
          all_goals
            go_ret
            refine ⟨by first | rfl | (simp [*]; done) | (simp [go_sem, *]; done), ?_⟩
            show Acc w _
            (repeat' (first | (with_reducible first | assumption | exact Acc.refl _ | refine Acc.alloc ?_ _ | refine Acc.setCell ?_ ?_ _) | (refine leB ?_; omega)))
         | some v =>
          obtain ⟨g1, g2, g3⟩ := v
          obtain ⟨hg1, hg2, hg3⟩ := okF_i64 (power_ok ht)
          have HG := Lib.hid ht
          clear ht
          refine (gave_some HG.out (implPower_any c1 c2 c3 hc1 hc2 hc3 _ (HL.out _ (by repeat' (first | (with_reducible first | assumption | exact Acc.refl _ | refine Acc.alloc ?_ _ | refine Acc.setCell ?_ ?_ _) | (refine leB ?_; omega)))))).mono ?_
          rintro e W7 ⟨rfl, hb⟩
          obtain ⟨Ba, Bc, Bo, Bw, Bn, Bm⟩ : Blk W7 (W0.heap.size) [.int .i64 x1, .int .i64 x2, .int .i64 x3, .int .i64 y1, .int .i64 y2, .int .i64 y3] ∧ Blk W7 (W0.heap.size + 1) [.int .i64 c1, .int .i64 c2, .int .i64 c3] ∧ Blk W7 (W1.heap.size) [.int .i64 u1, .int .i64 u2, .int .i64 u3, .int .i64 v1, .int .i64 v2, .int .i64 v3] ∧ Blk W7 (W2.heap.size) [.int .i64 u1, .int .i64 u2, .int .i64 u3, .int .i64 v1, .int .i64 v2, .int .i64 v3] ∧ Blk W7 (W5.heap.size) [.int .i64 n1, .int .i64 n2, .int .i64 n3] ∧ Blk W7 (W6.heap.size) [.int .i64 m1, .int .i64 m2, .int .i64 m3] := by
            refine ⟨?_, ?_, ?_, ?_, ?_, ?_⟩ <;> refine Blk.keep hb ?_ <;> (repeat' (first | (with_reducible first | assumption | apply Blk.set | (refine Blk.new ?_; focus (first | rfl | (simp; done))) | refine Blk.alloc ?_ _ | refine Blk.other ?_ ?_ _) | exact eqL rfl | (refine neB ?_; omega)))
          have ca := Ba.cell
          have fa := Ba.free
          have la_W7 := Ba.lt
          have cc := Bc.cell
          have fc := Bc.free
          have lc_W7 := Bc.lt
          have co := Bo.cell
          have fo := Bo.free
          have lo_W7 := Bo.lt
          have cw := Bw.cell
          have fw := Bw.free
          have lw_W7 := Bw.lt
          have cn := Bn.cell
          have fn := Bn.free
          have ln_W7 := Bn.lt
          have cm := Bm.cell
          have fm := Bm.free
          have lm_W7 := Bm.lt
          have kaW7 : Acc w W7 := by
            refine Acc.call ?_ hb
            (repeat' (first | (with_reducible first | assumption | exact Acc.refl _ | refine Acc.alloc ?_ _ | refine Acc.setCell ?_ ?_ _) | (refine leB ?_; omega)))
          clear hb
          go_wp2_with fail
          cases ht : timesF m1 m2 m3 g1 g2 g3 with
          | none =>
           have HT := Lib.hid ht
           clear ht
           refine (gave_none HT.out (implTimes_any m1 m2 m3 g1 g2 g3 hm1 hm2 hm3 hg1 hg2 hg3 _ (HL.out _ (by repeat' (first | (with_reducible first | assumption | exact Acc.refl _ | refine Acc.alloc ?_ _ | refine Acc.setCell ?_ ?_ _) | (refine leB ?_; omega)))))).mono ?_
           rintro e W8 ⟨rfl, hb⟩
           obtain ⟨Ba, Bc, Bo, Bw, Bn, Bm, Bg⟩ : Blk W8 (W0.heap.size) [.int .i64 x1, .int .i64 x2, .int .i64 x3, .int .i64 y1, .int .i64 y2, .int .i64 y3] ∧ Blk W8 (W0.heap.size + 1) [.int .i64 c1, .int .i64 c2, .int .i64 c3] ∧ Blk W8 (W1.heap.size) [.int .i64 u1, .int .i64 u2, .int .i64 u3, .int .i64 v1, .int .i64 v2, .int .i64 v3] ∧ Blk W8 (W2.heap.size) [.int .i64 u1, .int .i64 u2, .int .i64 u3, .int .i64 v1, .int .i64 v2, .int .i64 v3] ∧ Blk W8 (W5.heap.size) [.int .i64 n1, .int .i64 n2, .int .i64 n3] ∧ Blk W8 (W6.heap.size) [.int .i64 m1, .int .i64 m2, .int .i64 m3] ∧ Blk W8 (W7.heap.size) [.int .i64 g1, .int .i64 g2, .int .i64 g3] := by
             refine ⟨?_, ?_, ?_, ?_, ?_, ?_, ?_⟩ <;> refine Blk.keep hb ?_ <;> (repeat' (first | (with_reducible first | assumption | apply Blk.set | (refine Blk.new ?_; focus (first | rfl | (simp; done))) | refine Blk.alloc ?_ _ | refine Blk.other ?_ ?_ _) | exact eqL rfl | (refine neB ?_; omega)))
           have ca := Ba.cell
           have fa := Ba.free
           have la_W8 := Ba.lt
           have cc := Bc.cell
           have fc := Bc.free
           have lc_W8 := Bc.lt
           have co := Bo.cell
           have fo := Bo.free
           have lo_W8 := Bo.lt
           have cw := Bw.cell
           have fw := Bw.free
           have lw_W8 := Bw.lt
           have cn := Bn.cell
           have fn := Bn.free
           have ln_W8 := Bn.lt
           have cm := Bm.cell
           have fm := Bm.free
           have lm_W8 := Bm.lt
           have cg := Bg.cell
           have fg := Bg.free
           have lg_W8 := Bg.lt
           have kaW8 : Acc w W8 := by
             refine Acc.call ?_ hb
             (repeat' (first | (with_reducible first | assumption | exact Acc.refl _ | refine Acc.alloc ?_ _ | refine Acc.setCell ?_ ?_ _) | (refine leB ?_; omega)))
           clear hb
           go_wp2_with fail
           refine (valid_at HA.out (implJAlike_any x1 x2 x3 y1 y2 y3 u1 u2 u3 v1 v2 v3 hx1 hx2 hx3 hy1 hy2 hy3 hu1 hu2 hu3 hv1 hv2 hv3 _ (HL.out _ (by repeat' (first | (with_reducible first | assumption | exact Acc.refl _ | refine Acc.alloc ?_ _ | refine Acc.setCell ?_ ?_ _) | (refine leB ?_; omega)))))).mono ?_
           rintro e W9 ⟨rfl, hb⟩
           obtain ⟨Ba, Bc, Bo, Bw, Bn, Bm, Bg, Bt⟩ : Blk W9 (W0.heap.size) [.int .i64 x1, .int .i64 x2, .int .i64 x3, .int .i64 y1, .int .i64 y2, .int .i64 y3] ∧ Blk W9 (W0.heap.size + 1) [.int .i64 c1, .int .i64 c2, .int .i64 c3] ∧ Blk W9 (W1.heap.size) [.int .i64 u1, .int .i64 u2, .int .i64 u3, .int .i64 v1, .int .i64 v2, .int .i64 v3] ∧ Blk W9 (W2.heap.size) [.int .i64 u1, .int .i64 u2, .int .i64 u3, .int .i64 v1, .int .i64 v2, .int .i64 v3] ∧ Blk W9 (W5.heap.size) [.int .i64 n1, .int .i64 n2, .int .i64 n3] ∧ Blk W9 (W6.heap.size) [.int .i64 m1, .int .i64 m2, .int .i64 m3] ∧ Blk W9 (W7.heap.size) [.int .i64 g1, .int .i64 g2, .int .i64 g3] ∧ Blk W9 (W8.heap.size) [.int .i64 0, .int .i64 0, .int .i64 0] := by
             refine ⟨?_, ?_, ?_, ?_, ?_, ?_, ?_, ?_⟩ <;> refine Blk.keep hb ?_ <;> (repeat' (first | (with_reducible first | assumption | apply Blk.set | (refine Blk.new ?_; focus (first | rfl | (simp; done))) | refine Blk.alloc ?_ _ | refine Blk.other ?_ ?_ _) | exact eqL rfl | (refine neB ?_; omega)))
           have ca := Ba.cell
           have fa := Ba.free
           have la_W9 := Ba.lt
           have cc := Bc.cell
           have fc := Bc.free
           have lc_W9 := Bc.lt
           have co := Bo.cell
           have fo := Bo.free
           have lo_W9 := Bo.lt
           have cw := Bw.cell
           have fw := Bw.free
           have lw_W9 := Bw.lt
           have cn := Bn.cell
           have fn := Bn.free
           have ln_W9 := Bn.lt
           have cm := Bm.cell
           have fm := Bm.free
           have lm_W9 := Bm.lt
           have cg := Bg.cell
           have fg := Bg.free
           have lg_W9 := Bg.lt
           have ct := Bt.cell
           have ft := Bt.free
           have lt_W9 := Bt.lt
           have kaW9 : Acc w W9 := by
             refine Acc.call ?_ hb
             (repeat' (first | (with_reducible first | assumption | exact Acc.refl _ | refine Acc.alloc ?_ _ | refine Acc.setCell ?_ ?_ _) | (refine leB ?_; omega)))
           clear hb
           go_wp2_with fail
           all_goals
             go_ret
             refine ⟨by first | rfl | (simp [*]; done) | (simp [go_sem, *]; done), ?_⟩
             show Acc w _
             (repeat' (first | (with_reducible first | assumption | exact Acc.refl _ | refine Acc.alloc ?_ _ | refine Acc.setCell ?_ ?_ _) | (refine leB ?_; omega)))
          | some v =>
           obtain ⟨t1, t2, t3⟩ := v
           obtain ⟨ht1, ht2, ht3⟩ := okF_i64 (times_ok ht)
           have HT := Lib.hid ht
           clear ht
           refine (gave_some HT.out (implTimes_any m1 m2 m3 g1 g2 g3 hm1 hm2 hm3 hg1 hg2 hg3 _ (HL.out _ (by repeat' (first | (with_reducible first | assumption | exact Acc.refl _ | refine Acc.alloc ?_ _ | refine Acc.setCell ?_ ?_ _) | (refine leB ?_; omega)))))).mono ?_
           rintro e W8 ⟨rfl, hb⟩
           obtain ⟨Ba, Bc, Bo, Bw, Bn, Bm, Bg⟩ : Blk W8 (W0.heap.size) [.int .i64 x1, .int .i64 x2, .int .i64 x3, .int .i64 y1, .int .i64 y2, .int .i64 y3] ∧ Blk W8 (W0.heap.size + 1) [.int .i64 c1, .int .i64 c2, .int .i64 c3] ∧ Blk W8 (W1.heap.size) [.int .i64 u1, .int .i64 u2, .int .i64 u3, .int .i64 v1, .int .i64 v2, .int .i64 v3] ∧ Blk W8 (W2.heap.size) [.int .i64 u1, .int .i64 u2, .int .i64 u3, .int .i64 v1, .int .i64 v2, .int .i64 v3] ∧ Blk W8 (W5.heap.size) [.int .i64 n1, .int .i64 n2, .int .i64 n3] ∧ Blk W8 (W6.heap.size) [.int .i64 m1, .int .i64 m2, .int .i64 m3] ∧ Blk W8 (W7.heap.size) [.int .i64 g1, .int .i64 g2, .int .i64 g3] := by
             refine ⟨?_, ?_, ?_, ?_, ?_, ?_, ?_⟩ <;> refine Blk.keep hb ?_ <;> (repeat' (first | (with_reducible first | assumption | apply Blk.set | (refine Blk.new ?_; focus (first | rfl | (simp; done))) | refine Blk.alloc ?_ _ | refine Blk.other ?_ ?_ _) | exact eqL rfl | (refine neB ?_; omega)))
           have ca := Ba.cell
           have fa := Ba.free
           have la_W8 := Ba.lt
           have cc := Bc.cell
           have fc := Bc.free
           have lc_W8 := Bc.lt
           have co := Bo.cell
           have fo := Bo.free
           have lo_W8 := Bo.lt
           have cw := Bw.cell
           have fw := Bw.free
           have lw_W8 := Bw.lt
           have cn := Bn.cell
           have fn := Bn.free
           have ln_W8 := Bn.lt
           have cm := Bm.cell
           have fm := Bm.free
           have lm_W8 := Bm.lt
           have cg := Bg.cell
           have fg := Bg.free
           have lg_W8 := Bg.lt
           have kaW8 : Acc w W8 := by
             refine Acc.call ?_ hb
             (repeat' (first | (with_reducible first | assumption | exact Acc.refl _ | refine Acc.alloc ?_ _ | refine Acc.setCell ?_ ?_ _) | (refine leB ?_; omega)))
           clear hb
           go_wp2_with fail
           refine (valid_at HA.out (implJAlike_any x1 x2 x3 y1 y2 y3 u1 u2 u3 v1 v2 v3 hx1 hx2 hx3 hy1 hy2 hy3 hu1 hu2 hu3 hv1 hv2 hv3 _ (HL.out _ (by repeat' (first | (with_reducible first | assumption | exact Acc.refl _ | refine Acc.alloc ?_ _ | refine Acc.setCell ?_ ?_ _) | (refine leB ?_; omega)))))).mono ?_
           rintro e W9 ⟨rfl, hb⟩
           obtain ⟨Ba, Bc, Bo, Bw, Bn, Bm, Bg, Bt⟩ : Blk W9 (W0.heap.size) [.int .i64 x1, .int .i64 x2, .int .i64 x3, .int .i64 y1, .int .i64 y2, .int .i64 y3] ∧ Blk W9 (W0.heap.size + 1) [.int .i64 c1, .int .i64 c2, .int .i64 c3] ∧ Blk W9 (W1.heap.size) [.int .i64 u1, .int .i64 u2, .int .i64 u3, .int .i64 v1, .int .i64 v2, .int .i64 v3] ∧ Blk W9 (W2.heap.size) [.int .i64 u1, .int .i64 u2, .int .i64 u3, .int .i64 v1, .int .i64 v2, .int .i64 v3] ∧ Blk W9 (W5.heap.size) [.int .i64 n1, .int .i64 n2, .int .i64 n3] ∧ Blk W9 (W6.heap.size) [.int .i64 m1, .int .i64 m2, .int .i64 m3] ∧ Blk W9 (W7.heap.size) [.int .i64 g1, .int .i64 g2, .int .i64 g3] ∧ Blk W9 (W8.heap.size) [.int .i64 t1, .int .i64 t2, .int .i64 t3] := by
             refine ⟨?_, ?_, ?_, ?_, ?_, ?_, ?_, ?_⟩ <;> refine Blk.keep hb ?_ <;> (repeat' (first | (with_reducible first | assumption | apply Blk.set | (refine Blk.new ?_; focus (first | rfl | (simp; done))) | refine Blk.alloc ?_ _ | refine Blk.other ?_ ?_ _) | exact eqL rfl | (refine neB ?_; omega)))
           have ca := Ba.cell
           have fa := Ba.free
           have la_W9 := Ba.lt
           have cc := Bc.cell
           have fc := Bc.free
           have lc_W9 := Bc.lt
           have co := Bo.cell
           have fo := Bo.free
           have lo_W9 := Bo.lt
           have cw := Bw.cell
           have fw := Bw.free
           have lw_W9 := Bw.lt
           have cn := Bn.cell
           have fn := Bn.free
           have ln_W9 := Bn.lt
           have cm := Bm.cell
           have fm := Bm.free
           have lm_W9 := Bm.lt
           have cg := Bg.cell
           have fg := Bg.free
           have lg_W9 := Bg.lt
           have ct := Bt.cell
           have ft := Bt.free
           have lt_W9 := Bt.lt
           have kaW9 : Acc w W9 := by
             refine Acc.call ?_ hb
             (repeat' (first | (with_reducible first | assumption | exact Acc.refl _ | refine Acc.alloc ?_ _ | refine Acc.setCell ?_ ?_ _) | (refine leB ?_; omega)))
           clear hb
           go_wp2_with fail
           all_goals obtain ⟨⟩ := times_power HO.out HN.out HM.out HG.out HT.out
           all_goals try exact absurd rfl (by assumption)
           all_goals
             go_ret
             refine ⟨by first | rfl | (simp [*]; done) | (simp [go_sem, *]; done), ?_⟩
             show Acc w _
             (repeat' (first | (with_reducible first | assumption | exact Acc.refl _ | refine Acc.alloc ?_ _ | refine Acc.setCell ?_ ?_ _) | (refine leB ?_; omega)))
end Go.Proofs.YtbihlkienhbapabDoor
