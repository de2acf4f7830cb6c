/-
  The model: matrices: vectors, determinants.
-/
import Derived.Test.YtnfbopaafciiiabDoorSpecM1
namespace Go.Proofs.YtnfbopaafciiiabDoor
open Go.ChangeShapes Go.WideShapes Go.ChangeAt Go.RowKit
set_option linter.unusedVariables false

set_option maxHeartbeats 16000000 in
theorem specMDet_any (a1 a2 a3 b1 b2 b3 c1 c2 c3 d1 d2 d3 : Int) (w : World) :
    Calls Tryd.prog 22 #[.agg #[.int .i64 a1, .int .i64 a2, .int .i64 a3, .int .i64 b1, .int .i64 b2, .int .i64 b3, .int .i64 c1, .int .i64 c2, .int .i64 c3, .int .i64 d1, .int .i64 d2, .int .i64 d3]] w (Gave (detM ((a1, a2, a3), (b1, b2, b3), (c1, c2, c3), (d1, d2, d3))) w) := by
  obtain ⟨⟨m1, m2, m3⟩, hv⟩ : ∃ o, partsR (timesF a1 a2 a3 d1 d2 d3) = o := ⟨_, rfl⟩
  obtain ⟨km, hk⟩ : ∃ k, okR (timesF a1 a2 a3 d1 d2 d3) = k := ⟨_, rfl⟩
  have Cm := Lib.hid hv
  have Dm := Lib.hid hk
  clear hv hk
  obtain ⟨⟨n1, n2, n3⟩, hv⟩ : ∃ o, partsR (timesF b1 b2 b3 c1 c2 c3) = o := ⟨_, rfl⟩
  obtain ⟨kn, hk⟩ : ∃ k, okR (timesF b1 b2 b3 c1 c2 c3) = k := ⟨_, rfl⟩
  have Cn := Lib.hid hv
  have Dn := Lib.hid hk
  clear hv hk
  obtain ⟨⟨l1, l2, l3⟩, hv⟩ : ∃ o, partsR (lessF m1 m2 m3 n1 n2 n3) = o := ⟨_, rfl⟩
  obtain ⟨kl, hk⟩ : ∃ k, okR (lessF m1 m2 m3 n1 n2 n3) = k := ⟨_, rfl⟩
  have Cl := Lib.hid hv
  have Dl := Lib.hid hk
  clear hv hk
  obtain ⟨o, E⟩ : ∃ o, detM ((a1, a2, a3), (b1, b2, b3), (c1, c2, c3), (d1, d2, d3)) = o := ⟨_, rfl⟩
  rw [E]
  have HE := Lib.hid E
  clear E
  go_enter Tryd.func22, Tryd.ntmps22
  go_wp2_with fail
  refine (gave_any Cm.out Dm.out (specTimes_any a1 a2 a3 d1 d2 d3 _)).mono ?_
  rintro e W1 ⟨rfl, hb⟩
  obtain ⟨Ba, Bres⟩ : Blk W1 (w.heap.size) [.int .i64 a1, .int .i64 a2, .int .i64 a3, .int .i64 b1, .int .i64 b2, .int .i64 b3, .int .i64 c1, .int .i64 c2, .int .i64 c3, .int .i64 d1, .int .i64 d2, .int .i64 d3] ∧ Blk W1 (w.heap.size + 1) [.int .i64 0, .int .i64 0, .int .i64 0] := by
    refine ⟨?_, ?_⟩ <;> refine Blk.keep hb ?_ <;> (repeat' (first | (with_reducible first | assumption | refine Blk.drew ?_ | refine Blk.drewN ?_ _ | apply Blk.set | (refine Blk.new ?_; focus (first | rfl | (simp; done))) | refine Blk.alloc ?_ _ | refine Blk.other ?_ ?_ _) | exact eqL rfl | (refine neB ?_; omega)))
  have ca := Ba.cell
  have fa := Ba.free
  have la_W1 := Ba.lt
  have cres := Bres.cell
  have fres := Bres.free
  have lres_W1 := Bres.lt
  have kaW1 : Acc w W1 := by
    refine Acc.call ?_ hb
    (repeat' (first | (with_reducible first | assumption | exact Acc.refl _ | refine Acc.drew ?_ | refine Acc.drewN ?_ _ | refine Acc.alloc ?_ _ | refine Acc.setCell ?_ ?_ _) | (refine leB ?_; omega)))
  clear hb
  go_wp2_with fail
  refine (gave_any Cn.out Dn.out (specTimes_any b1 b2 b3 c1 c2 c3 _)).mono ?_
  rintro e W2 ⟨rfl, hb⟩
  obtain ⟨Ba, Bres, Bm⟩ : Blk W2 (w.heap.size) [.int .i64 a1, .int .i64 a2, .int .i64 a3, .int .i64 b1, .int .i64 b2, .int .i64 b3, .int .i64 c1, .int .i64 c2, .int .i64 c3, .int .i64 d1, .int .i64 d2, .int .i64 d3] ∧ Blk W2 (w.heap.size + 1) [.int .i64 0, .int .i64 0, .int .i64 0] ∧ Blk W2 (W1.heap.size) [.int .i64 m1, .int .i64 m2, .int .i64 m3] := by
    refine ⟨?_, ?_, ?_⟩ <;> refine Blk.keep hb ?_ <;> (repeat' (first | (with_reducible first | assumption | refine Blk.drew ?_ | refine Blk.drewN ?_ _ | apply Blk.set | (refine Blk.new ?_; focus (first | rfl | (simp; done))) | refine Blk.alloc ?_ _ | refine Blk.other ?_ ?_ _) | exact eqL rfl | (refine neB ?_; omega)))
  have ca := Ba.cell
  have fa := Ba.free
  have la_W2 := Ba.lt
  have cres := Bres.cell
  have fres := Bres.free
  have lres_W2 := Bres.lt
  have cm := Bm.cell
  have fm := Bm.free
  have lm_W2 := Bm.lt
  have kaW2 : Acc w W2 := by
    refine Acc.call ?_ hb
    (repeat' (first | (with_reducible first | assumption | exact Acc.refl _ | refine Acc.drew ?_ | refine Acc.drewN ?_ _ | refine Acc.alloc ?_ _ | refine Acc.setCell ?_ ?_ _) | (refine leB ?_; omega)))
  clear hb
  cases km with
  | false =>
    obtain rfl : o = none := HE.out.symm.trans (show lessO (timesF a1 a2 a3 d1 d2 d3) (timesF b1 b2 b3 c1 c2 c3) = none by rw [none_of Dm.out]; rfl)
    go_wp2_with fail
    refine bodyPost_ret (v := .tuple #[.agg #[.int .i64 0, .int .i64 0, .int .i64 0], .bool false]) (by simp [results, Tryd.results22, go_sem, *]) rfl ⟨rfl, ?_⟩
    show Acc w _
    (repeat' (first | (with_reducible first | assumption | exact Acc.refl _ | refine Acc.drew ?_ | refine Acc.drewN ?_ _ | refine Acc.alloc ?_ _ | refine Acc.setCell ?_ ?_ _) | (refine leB ?_; omega)))
  | true =>
    cases kn with
    | false =>
      obtain rfl : o = none := HE.out.symm.trans (show lessO (timesF a1 a2 a3 d1 d2 d3) (timesF b1 b2 b3 c1 c2 c3) = none by rw [none_of Dn.out]; exact lessO_n2 _)
      go_wp2_with fail
      refine bodyPost_ret (v := .tuple #[.agg #[.int .i64 0, .int .i64 0, .int .i64 0], .bool false]) (by simp [results, Tryd.results22, go_sem, *]) rfl ⟨rfl, ?_⟩
      show Acc w _
      (repeat' (first | (with_reducible first | assumption | exact Acc.refl _ | refine Acc.drew ?_ | refine Acc.drewN ?_ _ | refine Acc.alloc ?_ _ | refine Acc.setCell ?_ ?_ _) | (refine leB ?_; omega)))
    | true =>
      obtain rfl : lessF m1 m2 m3 n1 n2 n3 = o := Eq.trans (show _ = lessO (timesF a1 a2 a3 d1 d2 d3) (timesF b1 b2 b3 c1 c2 c3) by rw [some_of Cm.out Dm.out, some_of Cn.out Dn.out]; rfl) HE.out
      clear HE
      go_wp2_with fail
      refine (gave_any Cl.out Dl.out (specLess_any m1 m2 m3 n1 n2 n3 _)).mono ?_
      rintro e W3 ⟨rfl, hb⟩
      obtain ⟨Ba, Bres, Bm, Bn⟩ : Blk W3 (w.heap.size) [.int .i64 a1, .int .i64 a2, .int .i64 a3, .int .i64 b1, .int .i64 b2, .int .i64 b3, .int .i64 c1, .int .i64 c2, .int .i64 c3, .int .i64 d1, .int .i64 d2, .int .i64 d3] ∧ Blk W3 (w.heap.size + 1) [.int .i64 0, .int .i64 0, .int .i64 0] ∧ Blk W3 (W1.heap.size) [.int .i64 m1, .int .i64 m2, .int .i64 m3] ∧ Blk W3 (W2.heap.size) [.int .i64 n1, .int .i64 n2, .int .i64 n3] := by
        refine ⟨?_, ?_, ?_, ?_⟩ <;> refine Blk.keep hb ?_ <;> (repeat' (first | (with_reducible first | assumption | refine Blk.drew ?_ | refine Blk.drewN ?_ _ | apply Blk.set | (refine Blk.new ?_; focus (first | rfl | (simp; done))) | refine Blk.alloc ?_ _ | refine Blk.other ?_ ?_ _) | exact eqL rfl | (refine neB ?_; omega)))
      have ca := Ba.cell
      have fa := Ba.free
      have la_W3 := Ba.lt
      have cres := Bres.cell
      have fres := Bres.free
      have lres_W3 := Bres.lt
      have cm := Bm.cell
      have fm := Bm.free
      have lm_W3 := Bm.lt
      have cn := Bn.cell
      have fn := Bn.free
      have ln_W3 := Bn.lt
      have kaW3 : Acc w W3 := by
        refine Acc.call ?_ hb
        (repeat' (first | (with_reducible first | assumption | exact Acc.refl _ | refine Acc.drew ?_ | refine Acc.drewN ?_ _ | refine Acc.alloc ?_ _ | refine Acc.setCell ?_ ?_ _) | (refine leB ?_; omega)))
      clear hb
      go_wp2_with fail
      refine bodyPost_ret (v := .tuple #[.agg #[.int .i64 l1, .int .i64 l2, .int .i64 l3], .bool kl]) (by simp [results, Tryd.results22, go_sem, *]) rfl ⟨by rw [resV_eq, Cl.out, Dl.out], ?_⟩
      show Acc w _
      (repeat' (first | (with_reducible first | assumption | exact Acc.refl _ | refine Acc.drew ?_ | refine Acc.drewN ?_ _ | refine Acc.alloc ?_ _ | refine Acc.setCell ?_ ?_ _) | (refine leB ?_; omega)))
end Go.Proofs.YtnfbopaafciiiabDoor
