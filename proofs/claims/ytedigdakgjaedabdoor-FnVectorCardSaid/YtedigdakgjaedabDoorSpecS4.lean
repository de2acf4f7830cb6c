/-
  The model: the vector of pure light.
-/
import Derived.Test.YtedigdakgjaedabDoorSpecS3
namespace Go.Proofs.YtedigdakgjaedabDoor
open Go.ChangeShapes Go.WideShapes Go.ChangeAt Go.RowKit
set_option linter.unusedVariables false

theorem pure_valid {a1 a2 a3 b1 b2 b3 c1 c2 c3 d1 d2 d3 : Int} (h : pureF a1 a2 a3 b1 b2 b3 c1 c2 c3 d1 d2 d3 = true) : sValid a1 a2 a3 b1 b2 b3 c1 c2 c3 d1 d2 d3 = true := by
  unfold pureF restF at h
  cases hs : squaresF a1 a2 a3 b1 b2 b3 c1 c2 c3 d1 d2 d3 with
  | none => rw [hs] at h; cases h
  | some s =>
    unfold squaresF at hs
    split at hs
    · assumption
    · cases hs
set_option maxHeartbeats 16000000 in
theorem specSVec_any (a1 a2 a3 b1 b2 b3 c1 c2 c3 d1 d2 d3 : Int) (w : World) : Calls Tryd.prog 46 #[.agg #[.int .i64 a1, .int .i64 a2, .int .i64 a3, .int .i64 b1, .int .i64 b2, .int .i64 b3, .int .i64 c1, .int .i64 c2, .int .i64 c3, .int .i64 d1, .int .i64 d2, .int .i64 d3]] w (Gave6 (svecF a1 a2 a3 b1 b2 b3 c1 c2 c3 d1 d2 d3) w) := by
  obtain ⟨⟨p1, p2, p3⟩, hv⟩ : ∃ o, partsR (addF a1 a2 a3 b1 b2 b3) = o := ⟨_, rfl⟩
  obtain ⟨kp, hk⟩ : ∃ k, okR (addF a1 a2 a3 b1 b2 b3) = k := ⟨_, rfl⟩
  have Cp := Lib.hid hv
  have Dp := Lib.hid hk
  clear hv hk
  obtain ⟨⟨q1, q2, q3⟩, hv⟩ : ∃ o, partsR (makeF (2 * a1) 0 a3) = o := ⟨_, rfl⟩
  obtain ⟨kq, hk⟩ : ∃ k, okR (makeF (2 * a1) 0 a3) = k := ⟨_, rfl⟩
  have Cq := Lib.hid hv
  have Dq := Lib.hid hk
  clear hv hk
  obtain ⟨⟨r1, r2, r3⟩, hv⟩ : ∃ o, partsR (timesF d1 d2 d3 0 (-1) 1) = o := ⟨_, rfl⟩
  obtain ⟨kr, hk⟩ : ∃ k, okR (timesF d1 d2 d3 0 (-1) 1) = k := ⟨_, rfl⟩
  have Cr := Lib.hid hv
  have Dr := Lib.hid hk
  clear hv hk
  obtain ⟨⟨y1, y2, y3⟩, hv⟩ : ∃ o, partsR (addF c1 c2 c3 r1 r2 r3) = o := ⟨_, rfl⟩
  obtain ⟨ky, hk⟩ : ∃ k, okR (addF c1 c2 c3 r1 r2 r3) = k := ⟨_, rfl⟩
  have Cy := Lib.hid hv
  have Dy := Lib.hid hk
  clear hv hk
  obtain ⟨v, hv⟩ : ∃ k, pureF a1 a2 a3 b1 b2 b3 c1 c2 c3 d1 d2 d3 = k := ⟨_, rfl⟩
  have HV := Lib.hid hv
  clear hv
  obtain ⟨z, hz⟩ : ∃ k, (a1 == 0) = k := ⟨_, rfl⟩
  have HZ := Lib.hid hz
  obtain ⟨o, E⟩ : ∃ o, svecF a1 a2 a3 b1 b2 b3 c1 c2 c3 d1 d2 d3 = o := ⟨_, rfl⟩
  rw [E]
  have HE := Lib.hid E
  clear E
  go_enter Tryd.func46, Tryd.ntmps46
  go_wp2_with fail
  refine (valid_at HV.out (specPure_any a1 a2 a3 b1 b2 b3 c1 c2 c3 d1 d2 d3 _)).mono ?_
  rintro e W1 ⟨rfl, hb⟩
  obtain ⟨Ba, Bres⟩ : Blk W1 (w.heap.size) [.int .i64 a1, .int .i64 a2, .int .i64 a3, .int .i64 b1, .int .i64 b2, .int .i64 b3, .int .i64 c1, .int .i64 c2, .int .i64 c3, .int .i64 d1, .int .i64 d2, .int .i64 d3] ∧ Blk W1 (w.heap.size + 1) [.int .i64 0, .int .i64 0, .int .i64 0, .int .i64 0, .int .i64 0, .int .i64 0] := by
    refine ⟨?_, ?_⟩ <;> refine Blk.keep hb ?_ <;> (repeat' (first | (with_reducible first | assumption | refine Blk.drew ?_ | refine Blk.drewN ?_ _ | apply Blk.set | (refine Blk.new ?_; focus (first | rfl | (simp; done))) | refine Blk.alloc ?_ _ | refine Blk.other ?_ ?_ _) | exact eqL rfl | (refine neB ?_; omega)))
  have ca := Ba.cell
  have fa := Ba.free
  have la_W1 := Ba.lt
  have cres := Bres.cell
  have fres := Bres.free
  have lres_W1 := Bres.lt
  have kaW1 : Acc w W1 := by
    refine Acc.call ?_ hb
    (repeat' (first | (with_reducible first | assumption | exact Acc.refl _ | refine Acc.drew ?_ | refine Acc.drewN ?_ _ | refine Acc.alloc ?_ _ | refine Acc.setCell ?_ ?_ _) | (refine leB ?_; omega)))
  clear hb
  cases v with
  | false =>
    clear hz
    obtain rfl : o = none := HE.out.symm.trans (svec_not HV.out)
    go_wp2_with fail
    refine bodyPost_ret (v := .tuple #[.agg #[.int .i64 0, .int .i64 0, .int .i64 0, .int .i64 0, .int .i64 0, .int .i64 0], .bool false]) (by simp [results, Tryd.results46, go_sem, *]) rfl ⟨fun _ _ _ _ _ _ h => (by cases h), fun _ => rfl, ?_⟩
    show Acc w _
    (repeat' (first | (with_reducible first | assumption | exact Acc.refl _ | refine Acc.drew ?_ | refine Acc.drewN ?_ _ | refine Acc.alloc ?_ _ | refine Acc.setCell ?_ ?_ _) | (refine leB ?_; omega)))
  | true =>
    obtain ⟨⟨g1, g2⟩, -, -⟩ := okF_bd (realB_ok (sValid_ok (pure_valid HV.out)).1).1
    cases z with
    | true =>
      have hz' : a1 = 0 := by simpa using hz
      clear hz
      obtain rfl : o = none := HE.out.symm.trans (svec_dark hz')
      go_wp2_with fail
      refine bodyPost_ret (v := .tuple #[.agg #[.int .i64 0, .int .i64 0, .int .i64 0, .int .i64 0, .int .i64 0, .int .i64 0], .bool false]) (by simp [results, Tryd.results46, go_sem, *]) rfl ⟨fun _ _ _ _ _ _ h => (by cases h), fun _ => rfl, ?_⟩
      show Acc w _
      (repeat' (first | (with_reducible first | assumption | exact Acc.refl _ | refine Acc.drew ?_ | refine Acc.drewN ?_ _ | refine Acc.alloc ?_ _ | refine Acc.setCell ?_ ?_ _) | (refine leB ?_; omega)))
    | false =>
      have hz' : ¬ a1 = 0 := by simpa using hz
      have HZ2 := Lib.hid hz'
      clear hz
      go_wp2_with fail
      refine (gave_any Cp.out Dp.out (specAdd_any a1 a2 a3 b1 b2 b3 _)).mono ?_
      rintro e W2 ⟨rfl, hb⟩
      obtain ⟨Ba, Bres⟩ : Blk W2 (w.heap.size) [.int .i64 a1, .int .i64 a2, .int .i64 a3, .int .i64 b1, .int .i64 b2, .int .i64 b3, .int .i64 c1, .int .i64 c2, .int .i64 c3, .int .i64 d1, .int .i64 d2, .int .i64 d3] ∧ Blk W2 (w.heap.size + 1) [.int .i64 0, .int .i64 0, .int .i64 0, .int .i64 0, .int .i64 0, .int .i64 0] := by
        refine ⟨?_, ?_⟩ <;> refine Blk.keep hb ?_ <;> (repeat' (first | (with_reducible first | assumption | refine Blk.drew ?_ | refine Blk.drewN ?_ _ | apply Blk.set | (refine Blk.new ?_; focus (first | rfl | (simp; done))) | refine Blk.alloc ?_ _ | refine Blk.other ?_ ?_ _) | exact eqL rfl | (refine neB ?_; omega)))
      have ca := Ba.cell
      have fa := Ba.free
      have la_W2 := Ba.lt
      have cres := Bres.cell
      have fres := Bres.free
      have lres_W2 := Bres.lt
      have kaW2 : Acc w W2 := by
        refine Acc.call ?_ hb
        (repeat' (first | (with_reducible first | assumption | exact Acc.refl _ | refine Acc.drew ?_ | refine Acc.drewN ?_ _ | refine Acc.alloc ?_ _ | refine Acc.setCell ?_ ?_ _) | (refine leB ?_; omega)))
      clear hb
      go_wp2_with fail
      refine (gave_any Cq.out Dq.out (specTwice_any a1 a3 ⟨g1, g2⟩ _)).mono ?_
      rintro e W3 ⟨rfl, hb⟩
      obtain ⟨Ba, Bres, Bp⟩ : Blk W3 (w.heap.size) [.int .i64 a1, .int .i64 a2, .int .i64 a3, .int .i64 b1, .int .i64 b2, .int .i64 b3, .int .i64 c1, .int .i64 c2, .int .i64 c3, .int .i64 d1, .int .i64 d2, .int .i64 d3] ∧ Blk W3 (w.heap.size + 1) [.int .i64 0, .int .i64 0, .int .i64 0, .int .i64 0, .int .i64 0, .int .i64 0] ∧ Blk W3 (W2.heap.size) [.int .i64 p1, .int .i64 p2, .int .i64 p3] := by
        refine ⟨?_, ?_, ?_⟩ <;> refine Blk.keep hb ?_ <;> (repeat' (first | (with_reducible first | assumption | refine Blk.drew ?_ | refine Blk.drewN ?_ _ | apply Blk.set | (refine Blk.new ?_; focus (first | rfl | (simp; done))) | refine Blk.alloc ?_ _ | refine Blk.other ?_ ?_ _) | exact eqL rfl | (refine neB ?_; omega)))
      have ca := Ba.cell
      have fa := Ba.free
      have la_W3 := Ba.lt
      have cres := Bres.cell
      have fres := Bres.free
      have lres_W3 := Bres.lt
      have cp := Bp.cell
      have fp := Bp.free
      have lp_W3 := Bp.lt
      have kaW3 : Acc w W3 := by
        refine Acc.call ?_ hb
        (repeat' (first | (with_reducible first | assumption | exact Acc.refl _ | refine Acc.drew ?_ | refine Acc.drewN ?_ _ | refine Acc.alloc ?_ _ | refine Acc.setCell ?_ ?_ _) | (refine leB ?_; omega)))
      clear hb
      go_wp2_with fail
      refine (gave_any Cr.out Dr.out (specTimes_any d1 d2 d3 0 (-1) 1 _)).mono ?_
      rintro e W4 ⟨rfl, hb⟩
      obtain ⟨Ba, Bres, Bp, Bq⟩ : Blk W4 (w.heap.size) [.int .i64 a1, .int .i64 a2, .int .i64 a3, .int .i64 b1, .int .i64 b2, .int .i64 b3, .int .i64 c1, .int .i64 c2, .int .i64 c3, .int .i64 d1, .int .i64 d2, .int .i64 d3] ∧ Blk W4 (w.heap.size + 1) [.int .i64 0, .int .i64 0, .int .i64 0, .int .i64 0, .int .i64 0, .int .i64 0] ∧ Blk W4 (W2.heap.size) [.int .i64 p1, .int .i64 p2, .int .i64 p3] ∧ Blk W4 (W3.heap.size) [.int .i64 q1, .int .i64 q2, .int .i64 q3] := by
        refine ⟨?_, ?_, ?_, ?_⟩ <;> refine Blk.keep hb ?_ <;> (repeat' (first | (with_reducible first | assumption | refine Blk.drew ?_ | refine Blk.drewN ?_ _ | apply Blk.set | (refine Blk.new ?_; focus (first | rfl | (simp; done))) | refine Blk.alloc ?_ _ | refine Blk.other ?_ ?_ _) | exact eqL rfl | (refine neB ?_; omega)))
      have ca := Ba.cell
      have fa := Ba.free
      have la_W4 := Ba.lt
      have cres := Bres.cell
      have fres := Bres.free
      have lres_W4 := Bres.lt
      have cp := Bp.cell
      have fp := Bp.free
      have lp_W4 := Bp.lt
      have cq := Bq.cell
      have fq := Bq.free
      have lq_W4 := Bq.lt
      have kaW4 : Acc w W4 := by
        refine Acc.call ?_ hb
        (repeat' (first | (with_reducible first | assumption | exact Acc.refl _ | refine Acc.drew ?_ | refine Acc.drewN ?_ _ | refine Acc.alloc ?_ _ | refine Acc.setCell ?_ ?_ _) | (refine leB ?_; omega)))
      clear hb
      cases kp with
      | false =>
        obtain rfl : o = none := HE.out.symm.trans ((svec_parts HV.out HZ2.out).trans (by rw [none_of Dp.out]; rfl))
        go_wp2_with fail
        refine bodyPost_ret (v := .tuple #[.agg #[.int .i64 0, .int .i64 0, .int .i64 0, .int .i64 0, .int .i64 0, .int .i64 0], .bool false]) (by simp [results, Tryd.results46, go_sem, *]) rfl ⟨fun _ _ _ _ _ _ h => (by cases h), fun _ => rfl, ?_⟩
        show Acc w _
        (repeat' (first | (with_reducible first | assumption | exact Acc.refl _ | refine Acc.drew ?_ | refine Acc.drewN ?_ _ | refine Acc.alloc ?_ _ | refine Acc.setCell ?_ ?_ _) | (refine leB ?_; omega)))
      | true =>
        cases kq with
        | false =>
          obtain rfl : o = none := HE.out.symm.trans ((svec_parts HV.out HZ2.out).trans (by rw [some_of Cp.out Dp.out, none_of Dq.out]; rfl))
          go_wp2_with fail
          refine bodyPost_ret (v := .tuple #[.agg #[.int .i64 0, .int .i64 0, .int .i64 0, .int .i64 0, .int .i64 0, .int .i64 0], .bool false]) (by simp [results, Tryd.results46, go_sem, *]) rfl ⟨fun _ _ _ _ _ _ h => (by cases h), fun _ => rfl, ?_⟩
          show Acc w _
          (repeat' (first | (with_reducible first | assumption | exact Acc.refl _ | refine Acc.drew ?_ | refine Acc.drewN ?_ _ | refine Acc.alloc ?_ _ | refine Acc.setCell ?_ ?_ _) | (refine leB ?_; omega)))
        | true =>
          cases kr with
          | false =>
            obtain rfl : o = none := HE.out.symm.trans ((svec_parts HV.out HZ2.out).trans (by rw [some_of Cp.out Dp.out, some_of Cq.out Dq.out, none_of Dr.out]; rfl))
            go_wp2_with fail
            refine bodyPost_ret (v := .tuple #[.agg #[.int .i64 0, .int .i64 0, .int .i64 0, .int .i64 0, .int .i64 0, .int .i64 0], .bool false]) (by simp [results, Tryd.results46, go_sem, *]) rfl ⟨fun _ _ _ _ _ _ h => (by cases h), fun _ => rfl, ?_⟩
            show Acc w _
            (repeat' (first | (with_reducible first | assumption | exact Acc.refl _ | refine Acc.drew ?_ | refine Acc.drewN ?_ _ | refine Acc.alloc ?_ _ | refine Acc.setCell ?_ ?_ _) | (refine leB ?_; omega)))
          | true =>
            by_cases hp : p1 = 0
            · have HP := Lib.hid hp
              obtain rfl : o = some ((0, 0, 1), (q1, q2, q3)) := HE.out.symm.trans ((svec_parts HV.out HZ2.out).trans (by rw [some_of Cp.out Dp.out, some_of Cq.out Dq.out, some_of Cr.out Dr.out]; simp only [Option.bind_some]; rw [if_pos HP.out]))
              go_wp2_with fail
              refine bodyPost_ret (v := .tuple #[.agg #[.int .i64 0, .int .i64 0, .int .i64 1, .int .i64 q1, .int .i64 q2, .int .i64 q3], .bool true]) (by simp [results, Tryd.results46, go_sem, *]) rfl ⟨fun _ _ _ _ _ _ h => (by cases h; rfl), fun h => (by cases h), ?_⟩
              show Acc w _
              (repeat' (first | (with_reducible first | assumption | exact Acc.refl _ | refine Acc.drew ?_ | refine Acc.drewN ?_ _ | refine Acc.alloc ?_ _ | refine Acc.setCell ?_ ?_ _) | (refine leB ?_; omega)))
            · have HP := Lib.hid hp
              go_wp2_with fail
              refine (gave_any Cy.out Dy.out (specAdd_any c1 c2 c3 r1 r2 r3 _)).mono ?_
              rintro e W5 ⟨rfl, hb⟩
              obtain ⟨Ba, Bres, Bp, Bq, Br⟩ : Blk W5 (w.heap.size) [.int .i64 a1, .int .i64 a2, .int .i64 a3, .int .i64 b1, .int .i64 b2, .int .i64 b3, .int .i64 c1, .int .i64 c2, .int .i64 c3, .int .i64 d1, .int .i64 d2, .int .i64 d3] ∧ Blk W5 (w.heap.size + 1) [.int .i64 0, .int .i64 0, .int .i64 0, .int .i64 0, .int .i64 0, .int .i64 0] ∧ Blk W5 (W2.heap.size) [.int .i64 p1, .int .i64 p2, .int .i64 p3] ∧ Blk W5 (W3.heap.size) [.int .i64 q1, .int .i64 q2, .int .i64 q3] ∧ Blk W5 (W4.heap.size) [.int .i64 r1, .int .i64 r2, .int .i64 r3] := by
                refine ⟨?_, ?_, ?_, ?_, ?_⟩ <;> refine Blk.keep hb ?_ <;> (repeat' (first | (with_reducible first | assumption | refine Blk.drew ?_ | refine Blk.drewN ?_ _ | apply Blk.set | (refine Blk.new ?_; focus (first | rfl | (simp; done))) | refine Blk.alloc ?_ _ | refine Blk.other ?_ ?_ _) | exact eqL rfl | (refine neB ?_; omega)))
              have ca := Ba.cell
              have fa := Ba.free
              have la_W5 := Ba.lt
              have cres := Bres.cell
              have fres := Bres.free
              have lres_W5 := Bres.lt
              have cp := Bp.cell
              have fp := Bp.free
              have lp_W5 := Bp.lt
              have cq := Bq.cell
              have fq := Bq.free
              have lq_W5 := Bq.lt
              have cr := Br.cell
              have fr := Br.free
              have lr_W5 := Br.lt
              have kaW5 : Acc w W5 := by
                refine Acc.call ?_ hb
                (repeat' (first | (with_reducible first | assumption | exact Acc.refl _ | refine Acc.drew ?_ | refine Acc.drewN ?_ _ | refine Acc.alloc ?_ _ | refine Acc.setCell ?_ ?_ _) | (refine leB ?_; omega)))
              clear hb
              cases ky with
              | false =>
                obtain rfl : o = none := HE.out.symm.trans ((svec_parts HV.out HZ2.out).trans (by rw [some_of Cp.out Dp.out, some_of Cq.out Dq.out, some_of Cr.out Dr.out]; simp only [Option.bind_some]; rw [if_neg HP.out, none_of Dy.out]; rfl))
                go_wp2_with fail
                refine bodyPost_ret (v := .tuple #[.agg #[.int .i64 0, .int .i64 0, .int .i64 0, .int .i64 0, .int .i64 0, .int .i64 0], .bool false]) (by simp [results, Tryd.results46, go_sem, *]) rfl ⟨fun _ _ _ _ _ _ h => (by cases h), fun _ => rfl, ?_⟩
                show Acc w _
                (repeat' (first | (with_reducible first | assumption | exact Acc.refl _ | refine Acc.drew ?_ | refine Acc.drewN ?_ _ | refine Acc.alloc ?_ _ | refine Acc.setCell ?_ ?_ _) | (refine leB ?_; omega)))
              | true =>
                obtain rfl : o = some ((p1, p2, p3), (y1, y2, y3)) := HE.out.symm.trans ((svec_parts HV.out HZ2.out).trans (by rw [some_of Cp.out Dp.out, some_of Cq.out Dq.out, some_of Cr.out Dr.out]; simp only [Option.bind_some]; rw [if_neg HP.out, some_of Cy.out Dy.out]; rfl))
                go_wp2_with fail
                refine bodyPost_ret (v := .tuple #[.agg #[.int .i64 p1, .int .i64 p2, .int .i64 p3, .int .i64 y1, .int .i64 y2, .int .i64 y3], .bool true]) (by simp [results, Tryd.results46, go_sem, *]) rfl ⟨fun _ _ _ _ _ _ h => (by cases h; rfl), fun h => (by cases h), ?_⟩
                show Acc w _
                (repeat' (first | (with_reducible first | assumption | exact Acc.refl _ | refine Acc.drew ?_ | refine Acc.drewN ?_ _ | refine Acc.alloc ?_ _ | refine Acc.setCell ?_ ?_ _) | (refine leB ?_; omega)))
end Go.Proofs.YtedigdakgjaedabDoor
