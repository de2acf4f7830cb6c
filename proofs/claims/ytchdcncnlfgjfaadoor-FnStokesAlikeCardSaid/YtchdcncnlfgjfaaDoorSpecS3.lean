/-
  The model: the four numbers of a vector.
-/
import Derived.Test.YtchdcncnlfgjfaaDoorSpecS2
import Derived.Test.YtchdcncnlfgjfaaDoorStokesDef2
import Derived.Test.YtchdcncnlfgjfaaDoorBSpecF
namespace Go.Proofs.YtchdcncnlfgjfaaDoor
open Go.ChangeShapes Go.WideShapes Go.ChangeAt Go.RowKit
set_option linter.unusedVariables false

set_option maxHeartbeats 1000000 in
theorem specTwice_any (n d : Int) (h : -2000000000 ≤ n ∧ n ≤ 2000000000) (w : World) : Calls Tryd.prog 45 #[.int .i64 n, .int .i64 d] w (Gave (makeF (2 * n) 0 d) w) := by
  have hw : RowKit.wrap64 (2 * n) = 2 * n := by unfold RowKit.wrap64; omega
  have C := Lib.hid fun w => specMake_any (2 * n) 0 d w
  obtain ⟨o, E⟩ : ∃ o, makeF (2 * n) 0 d = o := ⟨_, rfl⟩
  rw [E] at C ⊢
  clear E
  cases o with
  | none =>
    go_enter Tryd.func45, Tryd.ntmps45
    go_wp2_with fail
    refine (gave_none rfl (C.out _)).mono ?_
    rintro e W1 ⟨rfl, hb⟩
    have Br : Blk W1 (w.heap.size) [.int .i64 0, .int .i64 0, .int .i64 0] := Blk.keep hb (by repeat' (first | (with_reducible first | assumption | refine Blk.drew ?_ | refine Blk.drewN ?_ _ | apply Blk.set | (refine Blk.new ?_; focus (first | rfl | (simp; done))) | refine Blk.alloc ?_ _ | refine Blk.other ?_ ?_ _) | exact eqL rfl | (refine neB ?_; omega)))
    have cr := Br.cell
    have fr := Br.free
    have lr_W1 := Br.lt
    have kaW1 : Acc w W1 := by
      refine Acc.call ?_ hb
      (repeat' (first | (with_reducible first | assumption | exact Acc.refl _ | refine Acc.drew ?_ | refine Acc.drewN ?_ _ | refine Acc.alloc ?_ _ | refine Acc.setCell ?_ ?_ _) | (refine leB ?_; omega)))
    clear hb
    go_wp2_with fail
    
    refine bodyPost_ret (v := .tuple #[.agg #[.int .i64 0, .int .i64 0, .int .i64 0], .bool false]) (by simp [results, Tryd.results45, go_sem, *]) rfl ⟨rfl, ?_⟩
    show Acc w _
    (repeat' (first | (with_reducible first | assumption | exact Acc.refl _ | refine Acc.drew ?_ | refine Acc.drewN ?_ _ | refine Acc.alloc ?_ _ | refine Acc.setCell ?_ ?_ _) | (refine leB ?_; omega)))
  | some v =>
    obtain ⟨p, q, r⟩ := v
    go_enter Tryd.func45, Tryd.ntmps45
    go_wp2_with fail
    refine (gave_some rfl (C.out _)).mono ?_
    rintro e W1 ⟨rfl, hb⟩
    have Br : Blk W1 (w.heap.size) [.int .i64 0, .int .i64 0, .int .i64 0] := Blk.keep hb (by repeat' (first | (with_reducible first | assumption | refine Blk.drew ?_ | refine Blk.drewN ?_ _ | apply Blk.set | (refine Blk.new ?_; focus (first | rfl | (simp; done))) | refine Blk.alloc ?_ _ | refine Blk.other ?_ ?_ _) | exact eqL rfl | (refine neB ?_; omega)))
    have cr := Br.cell
    have fr := Br.free
    have lr_W1 := Br.lt
    have kaW1 : Acc w W1 := by
      refine Acc.call ?_ hb
      (repeat' (first | (with_reducible first | assumption | exact Acc.refl _ | refine Acc.drew ?_ | refine Acc.drewN ?_ _ | refine Acc.alloc ?_ _ | refine Acc.setCell ?_ ?_ _) | (refine leB ?_; omega)))
    clear hb
    go_wp2_with fail
    
    refine bodyPost_ret (v := .tuple #[.agg #[.int .i64 p, .int .i64 q, .int .i64 r], .bool true]) (by simp [results, Tryd.results45, go_sem, *]) rfl ⟨rfl, ?_⟩
    show Acc w _
    (repeat' (first | (with_reducible first | assumption | exact Acc.refl _ | refine Acc.drew ?_ | refine Acc.drewN ?_ _ | refine Acc.alloc ?_ _ | refine Acc.setCell ?_ ?_ _) | (refine leB ?_; omega)))
set_option maxHeartbeats 16000000 in
theorem specSOf_any (x1 x2 x3 y1 y2 y3 : Int) (w : World) : Calls Tryd.prog 25 #[.agg #[.int .i64 x1, .int .i64 x2, .int .i64 x3, .int .i64 y1, .int .i64 y2, .int .i64 y3]] w (Gave12 (sofF x1 x2 x3 y1 y2 y3) w) := by
  obtain ⟨⟨p1, p2, p3⟩, hv⟩ : ∃ o, partsR (powerF x1 x2 x3) = o := ⟨_, rfl⟩
  obtain ⟨kp, hk⟩ : ∃ k, okR (powerF x1 x2 x3) = k := ⟨_, rfl⟩
  have Cp := Lib.hid hv
  have Dp := Lib.hid hk
  clear hv hk
  obtain ⟨⟨q1, q2, q3⟩, hv⟩ : ∃ o, partsR (powerF y1 y2 y3) = o := ⟨_, rfl⟩
  obtain ⟨kq, hk⟩ : ∃ k, okR (powerF y1 y2 y3) = k := ⟨_, rfl⟩
  have Cq := Lib.hid hv
  have Dq := Lib.hid hk
  clear hv hk
  obtain ⟨⟨m1, m2, m3⟩, hv⟩ : ∃ o, partsR (mirrorF y1 y2 y3) = o := ⟨_, rfl⟩
  obtain ⟨km, hk⟩ : ∃ k, okR (mirrorF y1 y2 y3) = k := ⟨_, rfl⟩
  have Cm := Lib.hid hv
  have Dm := Lib.hid hk
  clear hv hk
  obtain ⟨⟨c1, c2, c3⟩, hv⟩ : ∃ o, partsR (timesF x1 x2 x3 m1 m2 m3) = o := ⟨_, rfl⟩
  obtain ⟨kc, hk⟩ : ∃ k, okR (timesF x1 x2 x3 m1 m2 m3) = k := ⟨_, rfl⟩
  have Cc := Lib.hid hv
  have Dc := Lib.hid hk
  clear hv hk
  obtain ⟨⟨s1, s2, s3⟩, hv⟩ : ∃ o, partsR (addF p1 p2 p3 q1 q2 q3) = o := ⟨_, rfl⟩
  obtain ⟨ks, hk⟩ : ∃ k, okR (addF p1 p2 p3 q1 q2 q3) = k := ⟨_, rfl⟩
  have Cs := Lib.hid hv
  have Ds := Lib.hid hk
  clear hv hk
  obtain ⟨⟨l1, l2, l3⟩, hv⟩ : ∃ o, partsR (lessF p1 p2 p3 q1 q2 q3) = o := ⟨_, rfl⟩
  obtain ⟨kl, hk⟩ : ∃ k, okR (lessF p1 p2 p3 q1 q2 q3) = k := ⟨_, rfl⟩
  have Cl := Lib.hid hv
  have Dl := Lib.hid hk
  clear hv hk
  obtain ⟨⟨f1, f2, f3⟩, hv⟩ : ∃ o, partsR (makeF (2 * c1) 0 c3) = o := ⟨_, rfl⟩
  obtain ⟨kf, hk⟩ : ∃ k, okR (makeF (2 * c1) 0 c3) = k := ⟨_, rfl⟩
  have Cf := Lib.hid hv
  have Df := Lib.hid hk
  clear hv hk
  obtain ⟨⟨g1, g2, g3⟩, hv⟩ : ∃ o, partsR (makeF (2 * c2) 0 c3) = o := ⟨_, rfl⟩
  obtain ⟨kg, hk⟩ : ∃ k, okR (makeF (2 * c2) 0 c3) = k := ⟨_, rfl⟩
  have Cg := Lib.hid hv
  have Dg := Lib.hid hk
  clear hv hk
  obtain ⟨o, E⟩ : ∃ o, sofF x1 x2 x3 y1 y2 y3 = o := ⟨_, rfl⟩
  rw [E]
  have HE := Lib.hid E
  clear E
  go_enter Tryd.func25, Tryd.ntmps25
  go_wp2_with fail
  refine (gave_any Cp.out Dp.out (specPower_any x1 x2 x3 _)).mono ?_
  rintro e W1 ⟨rfl, hb⟩
  obtain ⟨Ba, Br⟩ : Blk W1 (w.heap.size) [.int .i64 x1, .int .i64 x2, .int .i64 x3, .int .i64 y1, .int .i64 y2, .int .i64 y3] ∧ Blk W1 (w.heap.size + 1) [.int .i64 0, .int .i64 0, .int .i64 0, .int .i64 0, .int .i64 0, .int .i64 0, .int .i64 0, .int .i64 0, .int .i64 0, .int .i64 0, .int .i64 0, .int .i64 0] := by
    refine ⟨?_, ?_⟩ <;> refine Blk.keep hb ?_ <;> (repeat' (first | (with_reducible first | assumption | refine Blk.drew ?_ | refine Blk.drewN ?_ _ | apply Blk.set | (refine Blk.new ?_; focus (first | rfl | (simp; done))) | refine Blk.alloc ?_ _ | refine Blk.other ?_ ?_ _) | exact eqL rfl | (refine neB ?_; omega)))
  have ca := Ba.cell
  have fa := Ba.free
  have la_W1 := Ba.lt
  have cr := Br.cell
  have fr := Br.free
  have lr_W1 := Br.lt
  have kaW1 : Acc w W1 := by
    refine Acc.call ?_ hb
    (repeat' (first | (with_reducible first | assumption | exact Acc.refl _ | refine Acc.drew ?_ | refine Acc.drewN ?_ _ | refine Acc.alloc ?_ _ | refine Acc.setCell ?_ ?_ _) | (refine leB ?_; omega)))
  clear hb
  go_wp2_with fail
  refine (gave_any Cq.out Dq.out (specPower_any y1 y2 y3 _)).mono ?_
  rintro e W2 ⟨rfl, hb⟩
  obtain ⟨Ba, Br, Bp⟩ : Blk W2 (w.heap.size) [.int .i64 x1, .int .i64 x2, .int .i64 x3, .int .i64 y1, .int .i64 y2, .int .i64 y3] ∧ Blk W2 (w.heap.size + 1) [.int .i64 0, .int .i64 0, .int .i64 0, .int .i64 0, .int .i64 0, .int .i64 0, .int .i64 0, .int .i64 0, .int .i64 0, .int .i64 0, .int .i64 0, .int .i64 0] ∧ Blk W2 (W1.heap.size) [.int .i64 p1, .int .i64 p2, .int .i64 p3] := by
    refine ⟨?_, ?_, ?_⟩ <;> refine Blk.keep hb ?_ <;> (repeat' (first | (with_reducible first | assumption | refine Blk.drew ?_ | refine Blk.drewN ?_ _ | apply Blk.set | (refine Blk.new ?_; focus (first | rfl | (simp; done))) | refine Blk.alloc ?_ _ | refine Blk.other ?_ ?_ _) | exact eqL rfl | (refine neB ?_; omega)))
  have ca := Ba.cell
  have fa := Ba.free
  have la_W2 := Ba.lt
  have cr := Br.cell
  have fr := Br.free
  have lr_W2 := Br.lt
  have cp := Bp.cell
  have fp := Bp.free
  have lp_W2 := Bp.lt
  have kaW2 : Acc w W2 := by
    refine Acc.call ?_ hb
    (repeat' (first | (with_reducible first | assumption | exact Acc.refl _ | refine Acc.drew ?_ | refine Acc.drewN ?_ _ | refine Acc.alloc ?_ _ | refine Acc.setCell ?_ ?_ _) | (refine leB ?_; omega)))
  clear hb
  go_wp2_with fail
  refine (gave_any Cm.out Dm.out (specMirror_any y1 y2 y3 _)).mono ?_
  rintro e W3 ⟨rfl, hb⟩
  obtain ⟨Ba, Br, Bp, Bq⟩ : Blk W3 (w.heap.size) [.int .i64 x1, .int .i64 x2, .int .i64 x3, .int .i64 y1, .int .i64 y2, .int .i64 y3] ∧ Blk W3 (w.heap.size + 1) [.int .i64 0, .int .i64 0, .int .i64 0, .int .i64 0, .int .i64 0, .int .i64 0, .int .i64 0, .int .i64 0, .int .i64 0, .int .i64 0, .int .i64 0, .int .i64 0] ∧ Blk W3 (W1.heap.size) [.int .i64 p1, .int .i64 p2, .int .i64 p3] ∧ Blk W3 (W2.heap.size) [.int .i64 q1, .int .i64 q2, .int .i64 q3] := by
    refine ⟨?_, ?_, ?_, ?_⟩ <;> refine Blk.keep hb ?_ <;> (repeat' (first | (with_reducible first | assumption | refine Blk.drew ?_ | refine Blk.drewN ?_ _ | apply Blk.set | (refine Blk.new ?_; focus (first | rfl | (simp; done))) | refine Blk.alloc ?_ _ | refine Blk.other ?_ ?_ _) | exact eqL rfl | (refine neB ?_; omega)))
  have ca := Ba.cell
  have fa := Ba.free
  have la_W3 := Ba.lt
  have cr := Br.cell
  have fr := Br.free
  have lr_W3 := Br.lt
  have cp := Bp.cell
  have fp := Bp.free
  have lp_W3 := Bp.lt
  have cq := Bq.cell
  have fq := Bq.free
  have lq_W3 := Bq.lt
  have kaW3 : Acc w W3 := by
    refine Acc.call ?_ hb
    (repeat' (first | (with_reducible first | assumption | exact Acc.refl _ | refine Acc.drew ?_ | refine Acc.drewN ?_ _ | refine Acc.alloc ?_ _ | refine Acc.setCell ?_ ?_ _) | (refine leB ?_; omega)))
  clear hb
  cases kp with
  | false =>
    obtain rfl : o = none := HE.out.symm.trans (sof_n1 (none_of Dp.out))
    go_wp2_with fail
    refine bodyPost_ret (v := .tuple #[.agg #[.int .i64 0, .int .i64 0, .int .i64 0, .int .i64 0, .int .i64 0, .int .i64 0, .int .i64 0, .int .i64 0, .int .i64 0, .int .i64 0, .int .i64 0, .int .i64 0], .bool false]) (by simp [results, Tryd.results25, go_sem, *]) rfl ⟨fun _ _ _ _ _ _ _ _ _ _ _ _ h => (by cases h), fun _ => rfl, ?_⟩
    show Acc w _
    (repeat' (first | (with_reducible first | assumption | exact Acc.refl _ | refine Acc.drew ?_ | refine Acc.drewN ?_ _ | refine Acc.alloc ?_ _ | refine Acc.setCell ?_ ?_ _) | (refine leB ?_; omega)))
  | true =>
    cases kq with
    | false =>
      obtain rfl : o = none := HE.out.symm.trans (sof_n2 (none_of Dq.out))
      go_wp2_with fail
      refine bodyPost_ret (v := .tuple #[.agg #[.int .i64 0, .int .i64 0, .int .i64 0, .int .i64 0, .int .i64 0, .int .i64 0, .int .i64 0, .int .i64 0, .int .i64 0, .int .i64 0, .int .i64 0, .int .i64 0], .bool false]) (by simp [results, Tryd.results25, go_sem, *]) rfl ⟨fun _ _ _ _ _ _ _ _ _ _ _ _ h => (by cases h), fun _ => rfl, ?_⟩
      show Acc w _
      (repeat' (first | (with_reducible first | assumption | exact Acc.refl _ | refine Acc.drew ?_ | refine Acc.drewN ?_ _ | refine Acc.alloc ?_ _ | refine Acc.setCell ?_ ?_ _) | (refine leB ?_; omega)))
    | true =>
      cases km with
      | false =>
        obtain rfl : o = none := HE.out.symm.trans (sof_n3 (none_of Dm.out))
        go_wp2_with fail
        refine bodyPost_ret (v := .tuple #[.agg #[.int .i64 0, .int .i64 0, .int .i64 0, .int .i64 0, .int .i64 0, .int .i64 0, .int .i64 0, .int .i64 0, .int .i64 0, .int .i64 0, .int .i64 0, .int .i64 0], .bool false]) (by simp [results, Tryd.results25, go_sem, *]) rfl ⟨fun _ _ _ _ _ _ _ _ _ _ _ _ h => (by cases h), fun _ => rfl, ?_⟩
        show Acc w _
        (repeat' (first | (with_reducible first | assumption | exact Acc.refl _ | refine Acc.drew ?_ | refine Acc.drewN ?_ _ | refine Acc.alloc ?_ _ | refine Acc.setCell ?_ ?_ _) | (refine leB ?_; omega)))
      | true =>
        go_wp2_with fail
        refine (gave_any Cc.out Dc.out (specTimes_any x1 x2 x3 m1 m2 m3 _)).mono ?_
        rintro e W4 ⟨rfl, hb⟩
        obtain ⟨Ba, Br, Bp, Bq, Bm⟩ : Blk W4 (w.heap.size) [.int .i64 x1, .int .i64 x2, .int .i64 x3, .int .i64 y1, .int .i64 y2, .int .i64 y3] ∧ Blk W4 (w.heap.size + 1) [.int .i64 0, .int .i64 0, .int .i64 0, .int .i64 0, .int .i64 0, .int .i64 0, .int .i64 0, .int .i64 0, .int .i64 0, .int .i64 0, .int .i64 0, .int .i64 0] ∧ Blk W4 (W1.heap.size) [.int .i64 p1, .int .i64 p2, .int .i64 p3] ∧ Blk W4 (W2.heap.size) [.int .i64 q1, .int .i64 q2, .int .i64 q3] ∧ Blk W4 (W3.heap.size) [.int .i64 m1, .int .i64 m2, .int .i64 m3] := by
          refine ⟨?_, ?_, ?_, ?_, ?_⟩ <;> refine Blk.keep hb ?_ <;> (repeat' (first | (with_reducible first | assumption | refine Blk.drew ?_ | refine Blk.drewN ?_ _ | apply Blk.set | (refine Blk.new ?_; focus (first | rfl | (simp; done))) | refine Blk.alloc ?_ _ | refine Blk.other ?_ ?_ _) | exact eqL rfl | (refine neB ?_; omega)))
        have ca := Ba.cell
        have fa := Ba.free
        have la_W4 := Ba.lt
        have cr := Br.cell
        have fr := Br.free
        have lr_W4 := Br.lt
        have cp := Bp.cell
        have fp := Bp.free
        have lp_W4 := Bp.lt
        have cq := Bq.cell
        have fq := Bq.free
        have lq_W4 := Bq.lt
        have cm := Bm.cell
        have fm := Bm.free
        have lm_W4 := Bm.lt
        have kaW4 : Acc w W4 := by
          refine Acc.call ?_ hb
          (repeat' (first | (with_reducible first | assumption | exact Acc.refl _ | refine Acc.drew ?_ | refine Acc.drewN ?_ _ | refine Acc.alloc ?_ _ | refine Acc.setCell ?_ ?_ _) | (refine leB ?_; omega)))
        clear hb
        go_wp2_with fail
        refine (gave_any Cs.out Ds.out (specAdd_any p1 p2 p3 q1 q2 q3 _)).mono ?_
        rintro e W5 ⟨rfl, hb⟩
        obtain ⟨Ba, Br, Bp, Bq, Bm, Bc⟩ : Blk W5 (w.heap.size) [.int .i64 x1, .int .i64 x2, .int .i64 x3, .int .i64 y1, .int .i64 y2, .int .i64 y3] ∧ Blk W5 (w.heap.size + 1) [.int .i64 0, .int .i64 0, .int .i64 0, .int .i64 0, .int .i64 0, .int .i64 0, .int .i64 0, .int .i64 0, .int .i64 0, .int .i64 0, .int .i64 0, .int .i64 0] ∧ Blk W5 (W1.heap.size) [.int .i64 p1, .int .i64 p2, .int .i64 p3] ∧ Blk W5 (W2.heap.size) [.int .i64 q1, .int .i64 q2, .int .i64 q3] ∧ Blk W5 (W3.heap.size) [.int .i64 m1, .int .i64 m2, .int .i64 m3] ∧ Blk W5 (W4.heap.size) [.int .i64 c1, .int .i64 c2, .int .i64 c3] := by
          refine ⟨?_, ?_, ?_, ?_, ?_, ?_⟩ <;> refine Blk.keep hb ?_ <;> (repeat' (first | (with_reducible first | assumption | refine Blk.drew ?_ | refine Blk.drewN ?_ _ | apply Blk.set | (refine Blk.new ?_; focus (first | rfl | (simp; done))) | refine Blk.alloc ?_ _ | refine Blk.other ?_ ?_ _) | exact eqL rfl | (refine neB ?_; omega)))
        have ca := Ba.cell
        have fa := Ba.free
        have la_W5 := Ba.lt
        have cr := Br.cell
        have fr := Br.free
        have lr_W5 := Br.lt
        have cp := Bp.cell
        have fp := Bp.free
        have lp_W5 := Bp.lt
        have cq := Bq.cell
        have fq := Bq.free
        have lq_W5 := Bq.lt
        have cm := Bm.cell
        have fm := Bm.free
        have lm_W5 := Bm.lt
        have cc := Bc.cell
        have fc := Bc.free
        have lc_W5 := Bc.lt
        have kaW5 : Acc w W5 := by
          refine Acc.call ?_ hb
          (repeat' (first | (with_reducible first | assumption | exact Acc.refl _ | refine Acc.drew ?_ | refine Acc.drewN ?_ _ | refine Acc.alloc ?_ _ | refine Acc.setCell ?_ ?_ _) | (refine leB ?_; omega)))
        clear hb
        go_wp2_with fail
        refine (gave_any Cl.out Dl.out (specLess_any p1 p2 p3 q1 q2 q3 _)).mono ?_
        rintro e W6 ⟨rfl, hb⟩
        obtain ⟨Ba, Br, Bp, Bq, Bm, Bc, Bs⟩ : Blk W6 (w.heap.size) [.int .i64 x1, .int .i64 x2, .int .i64 x3, .int .i64 y1, .int .i64 y2, .int .i64 y3] ∧ Blk W6 (w.heap.size + 1) [.int .i64 0, .int .i64 0, .int .i64 0, .int .i64 0, .int .i64 0, .int .i64 0, .int .i64 0, .int .i64 0, .int .i64 0, .int .i64 0, .int .i64 0, .int .i64 0] ∧ Blk W6 (W1.heap.size) [.int .i64 p1, .int .i64 p2, .int .i64 p3] ∧ Blk W6 (W2.heap.size) [.int .i64 q1, .int .i64 q2, .int .i64 q3] ∧ Blk W6 (W3.heap.size) [.int .i64 m1, .int .i64 m2, .int .i64 m3] ∧ Blk W6 (W4.heap.size) [.int .i64 c1, .int .i64 c2, .int .i64 c3] ∧ Blk W6 (W5.heap.size) [.int .i64 s1, .int .i64 s2, .int .i64 s3] := by
          refine ⟨?_, ?_, ?_, ?_, ?_, ?_, ?_⟩ <;> refine Blk.keep hb ?_ <;> (repeat' (first | (with_reducible first | assumption | refine Blk.drew ?_ | refine Blk.drewN ?_ _ | apply Blk.set | (refine Blk.new ?_; focus (first | rfl | (simp; done))) | refine Blk.alloc ?_ _ | refine Blk.other ?_ ?_ _) | exact eqL rfl | (refine neB ?_; omega)))
        have ca := Ba.cell
        have fa := Ba.free
        have la_W6 := Ba.lt
        have cr := Br.cell
        have fr := Br.free
        have lr_W6 := Br.lt
        have cp := Bp.cell
        have fp := Bp.free
        have lp_W6 := Bp.lt
        have cq := Bq.cell
        have fq := Bq.free
        have lq_W6 := Bq.lt
        have cm := Bm.cell
        have fm := Bm.free
        have lm_W6 := Bm.lt
        have cc := Bc.cell
        have fc := Bc.free
        have lc_W6 := Bc.lt
        have cs := Bs.cell
        have fs := Bs.free
        have ls_W6 := Bs.lt
        have kaW6 : Acc w W6 := by
          refine Acc.call ?_ hb
          (repeat' (first | (with_reducible first | assumption | exact Acc.refl _ | refine Acc.drew ?_ | refine Acc.drewN ?_ _ | refine Acc.alloc ?_ _ | refine Acc.setCell ?_ ?_ _) | (refine leB ?_; omega)))
        clear hb
        cases kc with
        | false =>
          obtain rfl : o = none := HE.out.symm.trans (sof_n4 (some_of Cm.out Dm.out) (none_of Dc.out))
          go_wp2_with fail
          refine bodyPost_ret (v := .tuple #[.agg #[.int .i64 0, .int .i64 0, .int .i64 0, .int .i64 0, .int .i64 0, .int .i64 0, .int .i64 0, .int .i64 0, .int .i64 0, .int .i64 0, .int .i64 0, .int .i64 0], .bool false]) (by simp [results, Tryd.results25, go_sem, *]) rfl ⟨fun _ _ _ _ _ _ _ _ _ _ _ _ h => (by cases h), fun _ => rfl, ?_⟩
          show Acc w _
          (repeat' (first | (with_reducible first | assumption | exact Acc.refl _ | refine Acc.drew ?_ | refine Acc.drewN ?_ _ | refine Acc.alloc ?_ _ | refine Acc.setCell ?_ ?_ _) | (refine leB ?_; omega)))
        | true =>
          cases ks with
          | false =>
            obtain rfl : o = none := HE.out.symm.trans ((sof_parts (some_of Cp.out Dp.out) (some_of Cq.out Dq.out) (some_of Cm.out Dm.out) (some_of Cc.out Dc.out)).trans (by rw [none_of Ds.out]; exact sofq1 _ _ _))
            go_wp2_with fail
            refine bodyPost_ret (v := .tuple #[.agg #[.int .i64 0, .int .i64 0, .int .i64 0, .int .i64 0, .int .i64 0, .int .i64 0, .int .i64 0, .int .i64 0, .int .i64 0, .int .i64 0, .int .i64 0, .int .i64 0], .bool false]) (by simp [results, Tryd.results25, go_sem, *]) rfl ⟨fun _ _ _ _ _ _ _ _ _ _ _ _ h => (by cases h), fun _ => rfl, ?_⟩
            show Acc w _
            (repeat' (first | (with_reducible first | assumption | exact Acc.refl _ | refine Acc.drew ?_ | refine Acc.drewN ?_ _ | refine Acc.alloc ?_ _ | refine Acc.setCell ?_ ?_ _) | (refine leB ?_; omega)))
          | true =>
            cases kl with
            | false =>
              obtain rfl : o = none := HE.out.symm.trans ((sof_parts (some_of Cp.out Dp.out) (some_of Cq.out Dq.out) (some_of Cm.out Dm.out) (some_of Cc.out Dc.out)).trans (by rw [none_of Dl.out]; exact sofq2 _ _ _))
              go_wp2_with fail
              refine bodyPost_ret (v := .tuple #[.agg #[.int .i64 0, .int .i64 0, .int .i64 0, .int .i64 0, .int .i64 0, .int .i64 0, .int .i64 0, .int .i64 0, .int .i64 0, .int .i64 0, .int .i64 0, .int .i64 0], .bool false]) (by simp [results, Tryd.results25, go_sem, *]) rfl ⟨fun _ _ _ _ _ _ _ _ _ _ _ _ h => (by cases h), fun _ => rfl, ?_⟩
              show Acc w _
              (repeat' (first | (with_reducible first | assumption | exact Acc.refl _ | refine Acc.drew ?_ | refine Acc.drewN ?_ _ | refine Acc.alloc ?_ _ | refine Acc.setCell ?_ ?_ _) | (refine leB ?_; omega)))
            | true =>
              obtain ⟨⟨bb1, bb2⟩, ⟨bb3, bb4⟩, -⟩ := okF_bd (times_some (some_of Cc.out Dc.out)).2.2.1
              go_wp2_with fail
              refine (gave_any Cf.out Df.out (specTwice_any c1 c3 ⟨bb1, bb2⟩ _)).mono ?_
              rintro e W7 ⟨rfl, hb⟩
              obtain ⟨Ba, Br, Bp, Bq, Bm, Bc, Bs, Bl⟩ : Blk W7 (w.heap.size) [.int .i64 x1, .int .i64 x2, .int .i64 x3, .int .i64 y1, .int .i64 y2, .int .i64 y3] ∧ Blk W7 (w.heap.size + 1) [.int .i64 0, .int .i64 0, .int .i64 0, .int .i64 0, .int .i64 0, .int .i64 0, .int .i64 0, .int .i64 0, .int .i64 0, .int .i64 0, .int .i64 0, .int .i64 0] ∧ Blk W7 (W1.heap.size) [.int .i64 p1, .int .i64 p2, .int .i64 p3] ∧ Blk W7 (W2.heap.size) [.int .i64 q1, .int .i64 q2, .int .i64 q3] ∧ Blk W7 (W3.heap.size) [.int .i64 m1, .int .i64 m2, .int .i64 m3] ∧ Blk W7 (W4.heap.size) [.int .i64 c1, .int .i64 c2, .int .i64 c3] ∧ Blk W7 (W5.heap.size) [.int .i64 s1, .int .i64 s2, .int .i64 s3] ∧ Blk W7 (W6.heap.size) [.int .i64 l1, .int .i64 l2, .int .i64 l3] := by
                refine ⟨?_, ?_, ?_, ?_, ?_, ?_, ?_, ?_⟩ <;> refine Blk.keep hb ?_ <;> (repeat' (first | (with_reducible first | assumption | refine Blk.drew ?_ | refine Blk.drewN ?_ _ | apply Blk.set | (refine Blk.new ?_; focus (first | rfl | (simp; done))) | refine Blk.alloc ?_ _ | refine Blk.other ?_ ?_ _) | exact eqL rfl | (refine neB ?_; omega)))
              have ca := Ba.cell
              have fa := Ba.free
              have la_W7 := Ba.lt
              have cr := Br.cell
              have fr := Br.free
              have lr_W7 := Br.lt
              have cp := Bp.cell
              have fp := Bp.free
              have lp_W7 := Bp.lt
              have cq := Bq.cell
              have fq := Bq.free
              have lq_W7 := Bq.lt
              have cm := Bm.cell
              have fm := Bm.free
              have lm_W7 := Bm.lt
              have cc := Bc.cell
              have fc := Bc.free
              have lc_W7 := Bc.lt
              have cs := Bs.cell
              have fs := Bs.free
              have ls_W7 := Bs.lt
              have cl := Bl.cell
              have fl := Bl.free
              have ll_W7 := Bl.lt
              have kaW7 : Acc w W7 := by
                refine Acc.call ?_ hb
                (repeat' (first | (with_reducible first | assumption | exact Acc.refl _ | refine Acc.drew ?_ | refine Acc.drewN ?_ _ | refine Acc.alloc ?_ _ | refine Acc.setCell ?_ ?_ _) | (refine leB ?_; omega)))
              clear hb
              go_wp2_with fail
              refine (gave_any Cg.out Dg.out (specTwice_any c2 c3 ⟨bb3, bb4⟩ _)).mono ?_
              rintro e W8 ⟨rfl, hb⟩
              obtain ⟨Ba, Br, Bp, Bq, Bm, Bc, Bs, Bl, Bf⟩ : Blk W8 (w.heap.size) [.int .i64 x1, .int .i64 x2, .int .i64 x3, .int .i64 y1, .int .i64 y2, .int .i64 y3] ∧ Blk W8 (w.heap.size + 1) [.int .i64 0, .int .i64 0, .int .i64 0, .int .i64 0, .int .i64 0, .int .i64 0, .int .i64 0, .int .i64 0, .int .i64 0, .int .i64 0, .int .i64 0, .int .i64 0] ∧ Blk W8 (W1.heap.size) [.int .i64 p1, .int .i64 p2, .int .i64 p3] ∧ Blk W8 (W2.heap.size) [.int .i64 q1, .int .i64 q2, .int .i64 q3] ∧ Blk W8 (W3.heap.size) [.int .i64 m1, .int .i64 m2, .int .i64 m3] ∧ Blk W8 (W4.heap.size) [.int .i64 c1, .int .i64 c2, .int .i64 c3] ∧ Blk W8 (W5.heap.size) [.int .i64 s1, .int .i64 s2, .int .i64 s3] ∧ Blk W8 (W6.heap.size) [.int .i64 l1, .int .i64 l2, .int .i64 l3] ∧ Blk W8 (W7.heap.size) [.int .i64 f1, .int .i64 f2, .int .i64 f3] := by
                refine ⟨?_, ?_, ?_, ?_, ?_, ?_, ?_, ?_, ?_⟩ <;> refine Blk.keep hb ?_ <;> (repeat' (first | (with_reducible first | assumption | refine Blk.drew ?_ | refine Blk.drewN ?_ _ | apply Blk.set | (refine Blk.new ?_; focus (first | rfl | (simp; done))) | refine Blk.alloc ?_ _ | refine Blk.other ?_ ?_ _) | exact eqL rfl | (refine neB ?_; omega)))
              have ca := Ba.cell
              have fa := Ba.free
              have la_W8 := Ba.lt
              have cr := Br.cell
              have fr := Br.free
              have lr_W8 := Br.lt
              have cp := Bp.cell
              have fp := Bp.free
              have lp_W8 := Bp.lt
              have cq := Bq.cell
              have fq := Bq.free
              have lq_W8 := Bq.lt
              have cm := Bm.cell
              have fm := Bm.free
              have lm_W8 := Bm.lt
              have cc := Bc.cell
              have fc := Bc.free
              have lc_W8 := Bc.lt
              have cs := Bs.cell
              have fs := Bs.free
              have ls_W8 := Bs.lt
              have cl := Bl.cell
              have fl := Bl.free
              have ll_W8 := Bl.lt
              have cf := Bf.cell
              have ff := Bf.free
              have lf_W8 := Bf.lt
              have kaW8 : Acc w W8 := by
                refine Acc.call ?_ hb
                (repeat' (first | (with_reducible first | assumption | exact Acc.refl _ | refine Acc.drew ?_ | refine Acc.drewN ?_ _ | refine Acc.alloc ?_ _ | refine Acc.setCell ?_ ?_ _) | (refine leB ?_; omega)))
              clear hb
              cases kf with
              | false =>
                obtain rfl : o = none := HE.out.symm.trans ((sof_parts (some_of Cp.out Dp.out) (some_of Cq.out Dq.out) (some_of Cm.out Dm.out) (some_of Cc.out Dc.out)).trans (by rw [none_of Df.out]; exact sofq3 _ _ _))
                go_wp2_with fail
                refine bodyPost_ret (v := .tuple #[.agg #[.int .i64 0, .int .i64 0, .int .i64 0, .int .i64 0, .int .i64 0, .int .i64 0, .int .i64 0, .int .i64 0, .int .i64 0, .int .i64 0, .int .i64 0, .int .i64 0], .bool false]) (by simp [results, Tryd.results25, go_sem, *]) rfl ⟨fun _ _ _ _ _ _ _ _ _ _ _ _ h => (by cases h), fun _ => rfl, ?_⟩
                show Acc w _
                (repeat' (first | (with_reducible first | assumption | exact Acc.refl _ | refine Acc.drew ?_ | refine Acc.drewN ?_ _ | refine Acc.alloc ?_ _ | refine Acc.setCell ?_ ?_ _) | (refine leB ?_; omega)))
              | true =>
                cases kg with
                | false =>
                  obtain rfl : o = none := HE.out.symm.trans ((sof_parts (some_of Cp.out Dp.out) (some_of Cq.out Dq.out) (some_of Cm.out Dm.out) (some_of Cc.out Dc.out)).trans (by rw [none_of Dg.out]; exact sofq4 _ _ _))
                  go_wp2_with fail
                  refine bodyPost_ret (v := .tuple #[.agg #[.int .i64 0, .int .i64 0, .int .i64 0, .int .i64 0, .int .i64 0, .int .i64 0, .int .i64 0, .int .i64 0, .int .i64 0, .int .i64 0, .int .i64 0, .int .i64 0], .bool false]) (by simp [results, Tryd.results25, go_sem, *]) rfl ⟨fun _ _ _ _ _ _ _ _ _ _ _ _ h => (by cases h), fun _ => rfl, ?_⟩
                  show Acc w _
                  (repeat' (first | (with_reducible first | assumption | exact Acc.refl _ | refine Acc.drew ?_ | refine Acc.drewN ?_ _ | refine Acc.alloc ?_ _ | refine Acc.setCell ?_ ?_ _) | (refine leB ?_; omega)))
                | true =>
                  obtain rfl : o = some ((s1, s2, s3), (l1, l2, l3), (f1, f2, f3), (g1, g2, g3)) := HE.out.symm.trans ((sof_parts (some_of Cp.out Dp.out) (some_of Cq.out Dq.out) (some_of Cm.out Dm.out) (some_of Cc.out Dc.out)).trans (by rw [some_of Cs.out Ds.out, some_of Cl.out Dl.out, some_of Cf.out Df.out, some_of Cg.out Dg.out]; rfl))
                  go_wp2_with fail
                  refine bodyPost_ret (v := .tuple #[.agg #[.int .i64 s1, .int .i64 s2, .int .i64 s3, .int .i64 l1, .int .i64 l2, .int .i64 l3, .int .i64 f1, .int .i64 f2, .int .i64 f3, .int .i64 g1, .int .i64 g2, .int .i64 g3], .bool true]) (by simp [results, Tryd.results25, go_sem, *]) rfl ⟨fun _ _ _ _ _ _ _ _ _ _ _ _ h => (by cases h; rfl), fun h => (by cases h), ?_⟩
                  show Acc w _
                  (repeat' (first | (with_reducible first | assumption | exact Acc.refl _ | refine Acc.drew ?_ | refine Acc.drewN ?_ _ | refine Acc.alloc ?_ _ | refine Acc.setCell ?_ ?_ _) | (refine leB ?_; omega)))
end Go.Proofs.YtchdcncnlfgjfaaDoor
