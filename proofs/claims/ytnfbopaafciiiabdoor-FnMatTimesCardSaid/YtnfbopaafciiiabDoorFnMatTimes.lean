/-
  The law FnMatTimes.
-/
import Derived.Test.YtnfbopaafciiiabDoorDrawMat2
import Derived.Test.YtnfbopaafciiiabDoorBDet
import Derived.Test.YtnfbopaafciiiabDoorMatPlate
namespace Go.Proofs.YtnfbopaafciiiabDoor
open Go.ChangeShapes Go.WideShapes Go.ChangeAt Go.RowKit
set_option linter.unusedVariables false

set_option maxRecDepth 100000 in
set_option maxHeartbeats 16000000 in
theorem fnMatTimes_law (w : World) (hl : Laid w) (s : Option Addr) (len cap : Nat) (h : Code8 w s len cap) :
    Calls Tryd.prog 3 #[.slice s len cap] w (Fine w) := by
  have hm := h.2.1
  have hl' := h.1
  unfold maxLen at hm
  have HL := Lib.hid fun W (k : Acc w W) => hl.acc k
  clear hl
  by_cases hlen : 1048576 < len
  · clear h
    have hlen' : (1048576 : Int) < (len : Int) := by omega
    go_enter Tryd.func3, Tryd.ntmps3
    go_wp2_with fail
    go_ret
    exact ⟨rfl, Below.refl _ _⟩
  have hlen' : ¬ (1048576 : Int) < (len : Int) := by omega
  go_enter Tryd.func3, Tryd.ntmps3
  go_wp2_with fail
  refine (drawMatTimes_any s len cap w h).mono ?_
  rintro e W0 ⟨a, b, rfl, Ia, Ib, hb⟩
  have kaW0 : Acc w W0 := hb
  clear hb h
  go_wp2_with fail
  obtain ⟨o, hx⟩ : ∃ x9, valM (mulM a b) = x9 := ⟨_, rfl⟩
  obtain ⟨po, hs⟩ : ∃ s9, (mulM a b).isSome = s9 := ⟨_, rfl⟩
  have Io := valM_i64 (fun r h => (mulM_ok h).2.2) hx
  have Co := Lib.hid hx
  have Do := Lib.hid hs
  clear hx hs
  cases po with
  | false =>
    have qo := eqMSame o
    refine (gaveM_at Co.out Do.out (implMTimes_T a b _ Ia Ib (HL.out _ (by repeat' (first | (with_reducible first | assumption | exact Acc.refl _ | refine Acc.drew ?_ | refine Acc.drewN ?_ _ | refine Acc.alloc ?_ _ | refine Acc.setCell ?_ ?_ _) | (refine leB ?_; omega)))))).mono ?_
    rintro e W1 ⟨rfl, hb⟩
    obtain ⟨Ba, Bb⟩ : Blk W1 (W0.heap.size) [.int .i64 a.1.1, .int .i64 a.1.2.1, .int .i64 a.1.2.2, .int .i64 a.2.1.1, .int .i64 a.2.1.2.1, .int .i64 a.2.1.2.2, .int .i64 a.2.2.1.1, .int .i64 a.2.2.1.2.1, .int .i64 a.2.2.1.2.2, .int .i64 a.2.2.2.1, .int .i64 a.2.2.2.2.1, .int .i64 a.2.2.2.2.2] ∧ Blk W1 (W0.heap.size + 1) [.int .i64 b.1.1, .int .i64 b.1.2.1, .int .i64 b.1.2.2, .int .i64 b.2.1.1, .int .i64 b.2.1.2.1, .int .i64 b.2.1.2.2, .int .i64 b.2.2.1.1, .int .i64 b.2.2.1.2.1, .int .i64 b.2.2.1.2.2, .int .i64 b.2.2.2.1, .int .i64 b.2.2.2.2.1, .int .i64 b.2.2.2.2.2] := by
      refine ⟨?_, ?_⟩ <;> refine Blk.keep hb ?_ <;> (repeat' (first | (with_reducible first | assumption | refine Blk.drew ?_ | refine Blk.drewN ?_ _ | apply Blk.set | (refine Blk.new ?_; focus (first | rfl | (simp; done))) | refine Blk.alloc ?_ _ | refine Blk.other ?_ ?_ _) | exact eqL rfl | (refine neB ?_; omega)))
    have ca := Ba.cell
    have fa := Ba.free
    have la_W1 := Ba.lt
    have cb := Bb.cell
    have fb := Bb.free
    have lb_W1 := Bb.lt
    have kaW1 : Acc w W1 := by
      refine Acc.call ?_ hb
      (repeat' (first | (with_reducible first | assumption | exact Acc.refl _ | refine Acc.drew ?_ | refine Acc.drewN ?_ _ | refine Acc.alloc ?_ _ | refine Acc.setCell ?_ ?_ _) | (refine leB ?_; omega)))
    clear hb
    go_wp2_with fail
    refine (gaveM_at Co.out Do.out (specMTimes_T a b _)).mono ?_
    rintro e W2 ⟨rfl, hb⟩
    obtain ⟨Ba, Bb, Bo⟩ : Blk W2 (W0.heap.size) [.int .i64 a.1.1, .int .i64 a.1.2.1, .int .i64 a.1.2.2, .int .i64 a.2.1.1, .int .i64 a.2.1.2.1, .int .i64 a.2.1.2.2, .int .i64 a.2.2.1.1, .int .i64 a.2.2.1.2.1, .int .i64 a.2.2.1.2.2, .int .i64 a.2.2.2.1, .int .i64 a.2.2.2.2.1, .int .i64 a.2.2.2.2.2] ∧ Blk W2 (W0.heap.size + 1) [.int .i64 b.1.1, .int .i64 b.1.2.1, .int .i64 b.1.2.2, .int .i64 b.2.1.1, .int .i64 b.2.1.2.1, .int .i64 b.2.1.2.2, .int .i64 b.2.2.1.1, .int .i64 b.2.2.1.2.1, .int .i64 b.2.2.1.2.2, .int .i64 b.2.2.2.1, .int .i64 b.2.2.2.2.1, .int .i64 b.2.2.2.2.2] ∧ Blk W2 (W1.heap.size) [.int .i64 o.1.1, .int .i64 o.1.2.1, .int .i64 o.1.2.2, .int .i64 o.2.1.1, .int .i64 o.2.1.2.1, .int .i64 o.2.1.2.2, .int .i64 o.2.2.1.1, .int .i64 o.2.2.1.2.1, .int .i64 o.2.2.1.2.2, .int .i64 o.2.2.2.1, .int .i64 o.2.2.2.2.1, .int .i64 o.2.2.2.2.2] := by
      refine ⟨?_, ?_, ?_⟩ <;> refine Blk.keep hb ?_ <;> (repeat' (first | (with_reducible first | assumption | refine Blk.drew ?_ | refine Blk.drewN ?_ _ | apply Blk.set | (refine Blk.new ?_; focus (first | rfl | (simp; done))) | refine Blk.alloc ?_ _ | refine Blk.other ?_ ?_ _) | exact eqL rfl | (refine neB ?_; omega)))
    have ca := Ba.cell
    have fa := Ba.free
    have la_W2 := Ba.lt
    have cb := Bb.cell
    have fb := Bb.free
    have lb_W2 := Bb.lt
    have co := Bo.cell
    have fo := Bo.free
    have lo_W2 := Bo.lt
    have kaW2 : Acc w W2 := by
      refine Acc.call ?_ hb
      (repeat' (first | (with_reducible first | assumption | exact Acc.refl _ | refine Acc.drew ?_ | refine Acc.drewN ?_ _ | refine Acc.alloc ?_ _ | refine Acc.setCell ?_ ?_ _) | (refine leB ?_; omega)))
    clear hb
    go_wp2_with fail
    all_goals
      go_ret
      refine ⟨by first | rfl | (simp [*]; done) | (simp [go_sem, *]; done), ?_⟩
      show Acc w _
      (repeat' (first | (with_reducible first | assumption | exact Acc.refl _ | refine Acc.drew ?_ | refine Acc.drewN ?_ _ | refine Acc.alloc ?_ _ | refine Acc.setCell ?_ ?_ _) | (refine leB ?_; omega)))
  | true =>
    have HO := Lib.hid (someM Co.out Do.out)
    have qo := eqMSame o
    refine (gaveM_at Co.out Do.out (implMTimes_T a b _ Ia Ib (HL.out _ (by repeat' (first | (with_reducible first | assumption | exact Acc.refl _ | refine Acc.drew ?_ | refine Acc.drewN ?_ _ | refine Acc.alloc ?_ _ | refine Acc.setCell ?_ ?_ _) | (refine leB ?_; omega)))))).mono ?_
    rintro e W1 ⟨rfl, hb⟩
    obtain ⟨Ba, Bb⟩ : Blk W1 (W0.heap.size) [.int .i64 a.1.1, .int .i64 a.1.2.1, .int .i64 a.1.2.2, .int .i64 a.2.1.1, .int .i64 a.2.1.2.1, .int .i64 a.2.1.2.2, .int .i64 a.2.2.1.1, .int .i64 a.2.2.1.2.1, .int .i64 a.2.2.1.2.2, .int .i64 a.2.2.2.1, .int .i64 a.2.2.2.2.1, .int .i64 a.2.2.2.2.2] ∧ Blk W1 (W0.heap.size + 1) [.int .i64 b.1.1, .int .i64 b.1.2.1, .int .i64 b.1.2.2, .int .i64 b.2.1.1, .int .i64 b.2.1.2.1, .int .i64 b.2.1.2.2, .int .i64 b.2.2.1.1, .int .i64 b.2.2.1.2.1, .int .i64 b.2.2.1.2.2, .int .i64 b.2.2.2.1, .int .i64 b.2.2.2.2.1, .int .i64 b.2.2.2.2.2] := by
      refine ⟨?_, ?_⟩ <;> refine Blk.keep hb ?_ <;> (repeat' (first | (with_reducible first | assumption | refine Blk.drew ?_ | refine Blk.drewN ?_ _ | apply Blk.set | (refine Blk.new ?_; focus (first | rfl | (simp; done))) | refine Blk.alloc ?_ _ | refine Blk.other ?_ ?_ _) | exact eqL rfl | (refine neB ?_; omega)))
    have ca := Ba.cell
    have fa := Ba.free
    have la_W1 := Ba.lt
    have cb := Bb.cell
    have fb := Bb.free
    have lb_W1 := Bb.lt
    have kaW1 : Acc w W1 := by
      refine Acc.call ?_ hb
      (repeat' (first | (with_reducible first | assumption | exact Acc.refl _ | refine Acc.drew ?_ | refine Acc.drewN ?_ _ | refine Acc.alloc ?_ _ | refine Acc.setCell ?_ ?_ _) | (refine leB ?_; omega)))
    clear hb
    go_wp2_with fail
    refine (gaveM_at Co.out Do.out (specMTimes_T a b _)).mono ?_
    rintro e W2 ⟨rfl, hb⟩
    obtain ⟨Ba, Bb, Bo⟩ : Blk W2 (W0.heap.size) [.int .i64 a.1.1, .int .i64 a.1.2.1, .int .i64 a.1.2.2, .int .i64 a.2.1.1, .int .i64 a.2.1.2.1, .int .i64 a.2.1.2.2, .int .i64 a.2.2.1.1, .int .i64 a.2.2.1.2.1, .int .i64 a.2.2.1.2.2, .int .i64 a.2.2.2.1, .int .i64 a.2.2.2.2.1, .int .i64 a.2.2.2.2.2] ∧ Blk W2 (W0.heap.size + 1) [.int .i64 b.1.1, .int .i64 b.1.2.1, .int .i64 b.1.2.2, .int .i64 b.2.1.1, .int .i64 b.2.1.2.1, .int .i64 b.2.1.2.2, .int .i64 b.2.2.1.1, .int .i64 b.2.2.1.2.1, .int .i64 b.2.2.1.2.2, .int .i64 b.2.2.2.1, .int .i64 b.2.2.2.2.1, .int .i64 b.2.2.2.2.2] ∧ Blk W2 (W1.heap.size) [.int .i64 o.1.1, .int .i64 o.1.2.1, .int .i64 o.1.2.2, .int .i64 o.2.1.1, .int .i64 o.2.1.2.1, .int .i64 o.2.1.2.2, .int .i64 o.2.2.1.1, .int .i64 o.2.2.1.2.1, .int .i64 o.2.2.1.2.2, .int .i64 o.2.2.2.1, .int .i64 o.2.2.2.2.1, .int .i64 o.2.2.2.2.2] := by
      refine ⟨?_, ?_, ?_⟩ <;> refine Blk.keep hb ?_ <;> (repeat' (first | (with_reducible first | assumption | refine Blk.drew ?_ | refine Blk.drewN ?_ _ | apply Blk.set | (refine Blk.new ?_; focus (first | rfl | (simp; done))) | refine Blk.alloc ?_ _ | refine Blk.other ?_ ?_ _) | exact eqL rfl | (refine neB ?_; omega)))
    have ca := Ba.cell
    have fa := Ba.free
    have la_W2 := Ba.lt
    have cb := Bb.cell
    have fb := Bb.free
    have lb_W2 := Bb.lt
    have co := Bo.cell
    have fo := Bo.free
    have lo_W2 := Bo.lt
    have kaW2 : Acc w W2 := by
      refine Acc.call ?_ hb
      (repeat' (first | (with_reducible first | assumption | exact Acc.refl _ | refine Acc.drew ?_ | refine Acc.drewN ?_ _ | refine Acc.alloc ?_ _ | refine Acc.setCell ?_ ?_ _) | (refine leB ?_; omega)))
    clear hb
    go_wp2_with fail
    obtain ⟨oa, ob, oo⟩ := mulM_ok HO.out
    obtain ⟨gu, hx⟩ : ∃ x9, valM (adjM a) = x9 := ⟨_, rfl⟩
    obtain ⟨pu, hs⟩ : ∃ s9, (adjM a).isSome = s9 := ⟨_, rfl⟩
    have Igu := valM_i64 (fun r h => (adjM_ok h).2) hx
    have Cgu := Lib.hid hx
    have Dgu := Lib.hid hs
    clear hx hs
    obtain rfl : true = pu := (adjM_told oa).symm.trans Dgu.out
    obtain ⟨gv, hx⟩ : ∃ x9, valM (adjM b) = x9 := ⟨_, rfl⟩
    obtain ⟨pv, hs⟩ : ∃ s9, (adjM b).isSome = s9 := ⟨_, rfl⟩
    have Igv := valM_i64 (fun r h => (adjM_ok h).2) hx
    have Cgv := Lib.hid hx
    have Dgv := Lib.hid hs
    clear hx hs
    obtain rfl : true = pv := (adjM_told ob).symm.trans Dgv.out
    obtain ⟨gw, hx⟩ : ∃ x9, valM (adjM o) = x9 := ⟨_, rfl⟩
    obtain ⟨pw, hs⟩ : ∃ s9, (adjM o).isSome = s9 := ⟨_, rfl⟩
    have Igw := valM_i64 (fun r h => (adjM_ok h).2) hx
    have Cgw := Lib.hid hx
    have Dgw := Lib.hid hs
    clear hx hs
    obtain rfl : true = pw := (adjM_told oo).symm.trans Dgw.out
    obtain ⟨gx, hx⟩ : ∃ x9, valM (mulM gv gu) = x9 := ⟨_, rfl⟩
    obtain ⟨px, hs⟩ : ∃ s9, (mulM gv gu).isSome = s9 := ⟨_, rfl⟩
    have Igx := valM_i64 (fun r h => (mulM_ok h).2.2) hx
    have Cgx := Lib.hid hx
    have Dgx := Lib.hid hs
    clear hx hs
    obtain ⟨gk, hx⟩ : ∃ x9, valT (detM a) = x9 := ⟨_, rfl⟩
    obtain ⟨pk, hs⟩ : ∃ s9, (detM a).isSome = s9 := ⟨_, rfl⟩
    have Igk := valT_i64 (fun r h => detM_okr h) hx
    have Cgk := Lib.hid hx
    have Dgk := Lib.hid hs
    clear hx hs
    obtain ⟨gl, hx⟩ : ∃ x9, valT (detM b) = x9 := ⟨_, rfl⟩
    obtain ⟨pl, hs⟩ : ∃ s9, (detM b).isSome = s9 := ⟨_, rfl⟩
    have Igl := valT_i64 (fun r h => detM_okr h) hx
    have Cgl := Lib.hid hx
    have Dgl := Lib.hid hs
    clear hx hs
    obtain ⟨gm, hx⟩ : ∃ x9, valT (detM o) = x9 := ⟨_, rfl⟩
    obtain ⟨pm, hs⟩ : ∃ s9, (detM o).isSome = s9 := ⟨_, rfl⟩
    have Igm := valT_i64 (fun r h => detM_okr h) hx
    have Cgm := Lib.hid hx
    have Dgm := Lib.hid hs
    clear hx hs
    obtain ⟨gn, hx⟩ : ∃ x9, valT (tT gk gl) = x9 := ⟨_, rfl⟩
    obtain ⟨pn, hs⟩ : ∃ s9, (tT gk gl).isSome = s9 := ⟨_, rfl⟩
    have Ign := valT_i64 (fun r h => (tT_val h).2.2.1) hx
    have Cgn := Lib.hid hx
    have Dgn := Lib.hid hs
    clear hx hs
    clear oa ob oo
    refine (gaveM_at Cgu.out Dgu.out (implMAdj_T a _ Ia (HL.out _ (by repeat' (first | (with_reducible first | assumption | exact Acc.refl _ | refine Acc.drew ?_ | refine Acc.drewN ?_ _ | refine Acc.alloc ?_ _ | refine Acc.setCell ?_ ?_ _) | (refine leB ?_; omega)))))).mono ?_
    rintro e W3 ⟨rfl, hb⟩
    obtain ⟨Ba, Bb, Bo⟩ : Blk W3 (W0.heap.size) [.int .i64 a.1.1, .int .i64 a.1.2.1, .int .i64 a.1.2.2, .int .i64 a.2.1.1, .int .i64 a.2.1.2.1, .int .i64 a.2.1.2.2, .int .i64 a.2.2.1.1, .int .i64 a.2.2.1.2.1, .int .i64 a.2.2.1.2.2, .int .i64 a.2.2.2.1, .int .i64 a.2.2.2.2.1, .int .i64 a.2.2.2.2.2] ∧ Blk W3 (W0.heap.size + 1) [.int .i64 b.1.1, .int .i64 b.1.2.1, .int .i64 b.1.2.2, .int .i64 b.2.1.1, .int .i64 b.2.1.2.1, .int .i64 b.2.1.2.2, .int .i64 b.2.2.1.1, .int .i64 b.2.2.1.2.1, .int .i64 b.2.2.1.2.2, .int .i64 b.2.2.2.1, .int .i64 b.2.2.2.2.1, .int .i64 b.2.2.2.2.2] ∧ Blk W3 (W1.heap.size) [.int .i64 o.1.1, .int .i64 o.1.2.1, .int .i64 o.1.2.2, .int .i64 o.2.1.1, .int .i64 o.2.1.2.1, .int .i64 o.2.1.2.2, .int .i64 o.2.2.1.1, .int .i64 o.2.2.1.2.1, .int .i64 o.2.2.1.2.2, .int .i64 o.2.2.2.1, .int .i64 o.2.2.2.2.1, .int .i64 o.2.2.2.2.2] := by
      refine ⟨?_, ?_, ?_⟩ <;> refine Blk.keep hb ?_ <;> (repeat' (first | (with_reducible first | assumption | refine Blk.drew ?_ | refine Blk.drewN ?_ _ | apply Blk.set | (refine Blk.new ?_; focus (first | rfl | (simp; done))) | refine Blk.alloc ?_ _ | refine Blk.other ?_ ?_ _) | exact eqL rfl | (refine neB ?_; omega)))
    have ca := Ba.cell
    have fa := Ba.free
    have la_W3 := Ba.lt
    have cb := Bb.cell
    have fb := Bb.free
    have lb_W3 := Bb.lt
    have co := Bo.cell
    have fo := Bo.free
    have lo_W3 := Bo.lt
    have kaW3 : Acc w W3 := by
      refine Acc.call ?_ hb
      (repeat' (first | (with_reducible first | assumption | exact Acc.refl _ | refine Acc.drew ?_ | refine Acc.drewN ?_ _ | refine Acc.alloc ?_ _ | refine Acc.setCell ?_ ?_ _) | (refine leB ?_; omega)))
    clear hb
    go_wp2_with fail
    refine (gaveM_at Cgv.out Dgv.out (implMAdj_T b _ Ib (HL.out _ (by repeat' (first | (with_reducible first | assumption | exact Acc.refl _ | refine Acc.drew ?_ | refine Acc.drewN ?_ _ | refine Acc.alloc ?_ _ | refine Acc.setCell ?_ ?_ _) | (refine leB ?_; omega)))))).mono ?_
    rintro e W4 ⟨rfl, hb⟩
    obtain ⟨Ba, Bb, Bo, Bgu⟩ : Blk W4 (W0.heap.size) [.int .i64 a.1.1, .int .i64 a.1.2.1, .int .i64 a.1.2.2, .int .i64 a.2.1.1, .int .i64 a.2.1.2.1, .int .i64 a.2.1.2.2, .int .i64 a.2.2.1.1, .int .i64 a.2.2.1.2.1, .int .i64 a.2.2.1.2.2, .int .i64 a.2.2.2.1, .int .i64 a.2.2.2.2.1, .int .i64 a.2.2.2.2.2] ∧ Blk W4 (W0.heap.size + 1) [.int .i64 b.1.1, .int .i64 b.1.2.1, .int .i64 b.1.2.2, .int .i64 b.2.1.1, .int .i64 b.2.1.2.1, .int .i64 b.2.1.2.2, .int .i64 b.2.2.1.1, .int .i64 b.2.2.1.2.1, .int .i64 b.2.2.1.2.2, .int .i64 b.2.2.2.1, .int .i64 b.2.2.2.2.1, .int .i64 b.2.2.2.2.2] ∧ Blk W4 (W1.heap.size) [.int .i64 o.1.1, .int .i64 o.1.2.1, .int .i64 o.1.2.2, .int .i64 o.2.1.1, .int .i64 o.2.1.2.1, .int .i64 o.2.1.2.2, .int .i64 o.2.2.1.1, .int .i64 o.2.2.1.2.1, .int .i64 o.2.2.1.2.2, .int .i64 o.2.2.2.1, .int .i64 o.2.2.2.2.1, .int .i64 o.2.2.2.2.2] ∧ Blk W4 (W3.heap.size) [.int .i64 gu.1.1, .int .i64 gu.1.2.1, .int .i64 gu.1.2.2, .int .i64 gu.2.1.1, .int .i64 gu.2.1.2.1, .int .i64 gu.2.1.2.2, .int .i64 gu.2.2.1.1, .int .i64 gu.2.2.1.2.1, .int .i64 gu.2.2.1.2.2, .int .i64 gu.2.2.2.1, .int .i64 gu.2.2.2.2.1, .int .i64 gu.2.2.2.2.2] := by
      refine ⟨?_, ?_, ?_, ?_⟩ <;> refine Blk.keep hb ?_ <;> (repeat' (first | (with_reducible first | assumption | refine Blk.drew ?_ | refine Blk.drewN ?_ _ | apply Blk.set | (refine Blk.new ?_; focus (first | rfl | (simp; done))) | refine Blk.alloc ?_ _ | refine Blk.other ?_ ?_ _) | exact eqL rfl | (refine neB ?_; omega)))
    have ca := Ba.cell
    have fa := Ba.free
    have la_W4 := Ba.lt
    have cb := Bb.cell
    have fb := Bb.free
    have lb_W4 := Bb.lt
    have co := Bo.cell
    have fo := Bo.free
    have lo_W4 := Bo.lt
    have cgu := Bgu.cell
    have fgu := Bgu.free
    have lgu_W4 := Bgu.lt
    have kaW4 : Acc w W4 := by
      refine Acc.call ?_ hb
      (repeat' (first | (with_reducible first | assumption | exact Acc.refl _ | refine Acc.drew ?_ | refine Acc.drewN ?_ _ | refine Acc.alloc ?_ _ | refine Acc.setCell ?_ ?_ _) | (refine leB ?_; omega)))
    clear hb
    go_wp2_with fail
    refine (gaveM_at Cgw.out Dgw.out (implMAdj_T o _ Io (HL.out _ (by repeat' (first | (with_reducible first | assumption | exact Acc.refl _ | refine Acc.drew ?_ | refine Acc.drewN ?_ _ | refine Acc.alloc ?_ _ | refine Acc.setCell ?_ ?_ _) | (refine leB ?_; omega)))))).mono ?_
    rintro e W5 ⟨rfl, hb⟩
    obtain ⟨Ba, Bb, Bo, Bgu, Bgv⟩ : Blk W5 (W0.heap.size) [.int .i64 a.1.1, .int .i64 a.1.2.1, .int .i64 a.1.2.2, .int .i64 a.2.1.1, .int .i64 a.2.1.2.1, .int .i64 a.2.1.2.2, .int .i64 a.2.2.1.1, .int .i64 a.2.2.1.2.1, .int .i64 a.2.2.1.2.2, .int .i64 a.2.2.2.1, .int .i64 a.2.2.2.2.1, .int .i64 a.2.2.2.2.2] ∧ Blk W5 (W0.heap.size + 1) [.int .i64 b.1.1, .int .i64 b.1.2.1, .int .i64 b.1.2.2, .int .i64 b.2.1.1, .int .i64 b.2.1.2.1, .int .i64 b.2.1.2.2, .int .i64 b.2.2.1.1, .int .i64 b.2.2.1.2.1, .int .i64 b.2.2.1.2.2, .int .i64 b.2.2.2.1, .int .i64 b.2.2.2.2.1, .int .i64 b.2.2.2.2.2] ∧ Blk W5 (W1.heap.size) [.int .i64 o.1.1, .int .i64 o.1.2.1, .int .i64 o.1.2.2, .int .i64 o.2.1.1, .int .i64 o.2.1.2.1, .int .i64 o.2.1.2.2, .int .i64 o.2.2.1.1, .int .i64 o.2.2.1.2.1, .int .i64 o.2.2.1.2.2, .int .i64 o.2.2.2.1, .int .i64 o.2.2.2.2.1, .int .i64 o.2.2.2.2.2] ∧ Blk W5 (W3.heap.size) [.int .i64 gu.1.1, .int .i64 gu.1.2.1, .int .i64 gu.1.2.2, .int .i64 gu.2.1.1, .int .i64 gu.2.1.2.1, .int .i64 gu.2.1.2.2, .int .i64 gu.2.2.1.1, .int .i64 gu.2.2.1.2.1, .int .i64 gu.2.2.1.2.2, .int .i64 gu.2.2.2.1, .int .i64 gu.2.2.2.2.1, .int .i64 gu.2.2.2.2.2] ∧ Blk W5 (W4.heap.size) [.int .i64 gv.1.1, .int .i64 gv.1.2.1, .int .i64 gv.1.2.2, .int .i64 gv.2.1.1, .int .i64 gv.2.1.2.1, .int .i64 gv.2.1.2.2, .int .i64 gv.2.2.1.1, .int .i64 gv.2.2.1.2.1, .int .i64 gv.2.2.1.2.2, .int .i64 gv.2.2.2.1, .int .i64 gv.2.2.2.2.1, .int .i64 gv.2.2.2.2.2] := by
      refine ⟨?_, ?_, ?_, ?_, ?_⟩ <;> refine Blk.keep hb ?_ <;> (repeat' (first | (with_reducible first | assumption | refine Blk.drew ?_ | refine Blk.drewN ?_ _ | apply Blk.set | (refine Blk.new ?_; focus (first | rfl | (simp; done))) | refine Blk.alloc ?_ _ | refine Blk.other ?_ ?_ _) | exact eqL rfl | (refine neB ?_; omega)))
    have ca := Ba.cell
    have fa := Ba.free
    have la_W5 := Ba.lt
    have cb := Bb.cell
    have fb := Bb.free
    have lb_W5 := Bb.lt
    have co := Bo.cell
    have fo := Bo.free
    have lo_W5 := Bo.lt
    have cgu := Bgu.cell
    have fgu := Bgu.free
    have lgu_W5 := Bgu.lt
    have cgv := Bgv.cell
    have fgv := Bgv.free
    have lgv_W5 := Bgv.lt
    have kaW5 : Acc w W5 := by
      refine Acc.call ?_ hb
      (repeat' (first | (with_reducible first | assumption | exact Acc.refl _ | refine Acc.drew ?_ | refine Acc.drewN ?_ _ | refine Acc.alloc ?_ _ | refine Acc.setCell ?_ ?_ _) | (refine leB ?_; omega)))
    clear hb
    go_wp2_with fail
    refine (gaveM_at Cgx.out Dgx.out (implMTimes_T gv gu _ Igv Igu (HL.out _ (by repeat' (first | (with_reducible first | assumption | exact Acc.refl _ | refine Acc.drew ?_ | refine Acc.drewN ?_ _ | refine Acc.alloc ?_ _ | refine Acc.setCell ?_ ?_ _) | (refine leB ?_; omega)))))).mono ?_
    rintro e W6 ⟨rfl, hb⟩
    obtain ⟨Ba, Bb, Bo, Bgu, Bgv, Bgw⟩ : Blk W6 (W0.heap.size) [.int .i64 a.1.1, .int .i64 a.1.2.1, .int .i64 a.1.2.2, .int .i64 a.2.1.1, .int .i64 a.2.1.2.1, .int .i64 a.2.1.2.2, .int .i64 a.2.2.1.1, .int .i64 a.2.2.1.2.1, .int .i64 a.2.2.1.2.2, .int .i64 a.2.2.2.1, .int .i64 a.2.2.2.2.1, .int .i64 a.2.2.2.2.2] ∧ Blk W6 (W0.heap.size + 1) [.int .i64 b.1.1, .int .i64 b.1.2.1, .int .i64 b.1.2.2, .int .i64 b.2.1.1, .int .i64 b.2.1.2.1, .int .i64 b.2.1.2.2, .int .i64 b.2.2.1.1, .int .i64 b.2.2.1.2.1, .int .i64 b.2.2.1.2.2, .int .i64 b.2.2.2.1, .int .i64 b.2.2.2.2.1, .int .i64 b.2.2.2.2.2] ∧ Blk W6 (W1.heap.size) [.int .i64 o.1.1, .int .i64 o.1.2.1, .int .i64 o.1.2.2, .int .i64 o.2.1.1, .int .i64 o.2.1.2.1, .int .i64 o.2.1.2.2, .int .i64 o.2.2.1.1, .int .i64 o.2.2.1.2.1, .int .i64 o.2.2.1.2.2, .int .i64 o.2.2.2.1, .int .i64 o.2.2.2.2.1, .int .i64 o.2.2.2.2.2] ∧ Blk W6 (W3.heap.size) [.int .i64 gu.1.1, .int .i64 gu.1.2.1, .int .i64 gu.1.2.2, .int .i64 gu.2.1.1, .int .i64 gu.2.1.2.1, .int .i64 gu.2.1.2.2, .int .i64 gu.2.2.1.1, .int .i64 gu.2.2.1.2.1, .int .i64 gu.2.2.1.2.2, .int .i64 gu.2.2.2.1, .int .i64 gu.2.2.2.2.1, .int .i64 gu.2.2.2.2.2] ∧ Blk W6 (W4.heap.size) [.int .i64 gv.1.1, .int .i64 gv.1.2.1, .int .i64 gv.1.2.2, .int .i64 gv.2.1.1, .int .i64 gv.2.1.2.1, .int .i64 gv.2.1.2.2, .int .i64 gv.2.2.1.1, .int .i64 gv.2.2.1.2.1, .int .i64 gv.2.2.1.2.2, .int .i64 gv.2.2.2.1, .int .i64 gv.2.2.2.2.1, .int .i64 gv.2.2.2.2.2] ∧ Blk W6 (W5.heap.size) [.int .i64 gw.1.1, .int .i64 gw.1.2.1, .int .i64 gw.1.2.2, .int .i64 gw.2.1.1, .int .i64 gw.2.1.2.1, .int .i64 gw.2.1.2.2, .int .i64 gw.2.2.1.1, .int .i64 gw.2.2.1.2.1, .int .i64 gw.2.2.1.2.2, .int .i64 gw.2.2.2.1, .int .i64 gw.2.2.2.2.1, .int .i64 gw.2.2.2.2.2] := by
      refine ⟨?_, ?_, ?_, ?_, ?_, ?_⟩ <;> refine Blk.keep hb ?_ <;> (repeat' (first | (with_reducible first | assumption | refine Blk.drew ?_ | refine Blk.drewN ?_ _ | apply Blk.set | (refine Blk.new ?_; focus (first | rfl | (simp; done))) | refine Blk.alloc ?_ _ | refine Blk.other ?_ ?_ _) | exact eqL rfl | (refine neB ?_; omega)))
    have ca := Ba.cell
    have fa := Ba.free
    have la_W6 := Ba.lt
    have cb := Bb.cell
    have fb := Bb.free
    have lb_W6 := Bb.lt
    have co := Bo.cell
    have fo := Bo.free
    have lo_W6 := Bo.lt
    have cgu := Bgu.cell
    have fgu := Bgu.free
    have lgu_W6 := Bgu.lt
    have cgv := Bgv.cell
    have fgv := Bgv.free
    have lgv_W6 := Bgv.lt
    have cgw := Bgw.cell
    have fgw := Bgw.free
    have lgw_W6 := Bgw.lt
    have kaW6 : Acc w W6 := by
      refine Acc.call ?_ hb
      (repeat' (first | (with_reducible first | assumption | exact Acc.refl _ | refine Acc.drew ?_ | refine Acc.drewN ?_ _ | refine Acc.alloc ?_ _ | refine Acc.setCell ?_ ?_ _) | (refine leB ?_; omega)))
    clear hb
    go_wp2_with fail
    refine (gaveT_at Cgk.out Dgk.out (implMDet_T a _ Ia (HL.out _ (by repeat' (first | (with_reducible first | assumption | exact Acc.refl _ | refine Acc.drew ?_ | refine Acc.drewN ?_ _ | refine Acc.alloc ?_ _ | refine Acc.setCell ?_ ?_ _) | (refine leB ?_; omega)))))).mono ?_
    rintro e W7 ⟨rfl, hb⟩
    obtain ⟨Ba, Bb, Bo, Bgu, Bgv, Bgw, Bgx⟩ : Blk W7 (W0.heap.size) [.int .i64 a.1.1, .int .i64 a.1.2.1, .int .i64 a.1.2.2, .int .i64 a.2.1.1, .int .i64 a.2.1.2.1, .int .i64 a.2.1.2.2, .int .i64 a.2.2.1.1, .int .i64 a.2.2.1.2.1, .int .i64 a.2.2.1.2.2, .int .i64 a.2.2.2.1, .int .i64 a.2.2.2.2.1, .int .i64 a.2.2.2.2.2] ∧ Blk W7 (W0.heap.size + 1) [.int .i64 b.1.1, .int .i64 b.1.2.1, .int .i64 b.1.2.2, .int .i64 b.2.1.1, .int .i64 b.2.1.2.1, .int .i64 b.2.1.2.2, .int .i64 b.2.2.1.1, .int .i64 b.2.2.1.2.1, .int .i64 b.2.2.1.2.2, .int .i64 b.2.2.2.1, .int .i64 b.2.2.2.2.1, .int .i64 b.2.2.2.2.2] ∧ Blk W7 (W1.heap.size) [.int .i64 o.1.1, .int .i64 o.1.2.1, .int .i64 o.1.2.2, .int .i64 o.2.1.1, .int .i64 o.2.1.2.1, .int .i64 o.2.1.2.2, .int .i64 o.2.2.1.1, .int .i64 o.2.2.1.2.1, .int .i64 o.2.2.1.2.2, .int .i64 o.2.2.2.1, .int .i64 o.2.2.2.2.1, .int .i64 o.2.2.2.2.2] ∧ Blk W7 (W3.heap.size) [.int .i64 gu.1.1, .int .i64 gu.1.2.1, .int .i64 gu.1.2.2, .int .i64 gu.2.1.1, .int .i64 gu.2.1.2.1, .int .i64 gu.2.1.2.2, .int .i64 gu.2.2.1.1, .int .i64 gu.2.2.1.2.1, .int .i64 gu.2.2.1.2.2, .int .i64 gu.2.2.2.1, .int .i64 gu.2.2.2.2.1, .int .i64 gu.2.2.2.2.2] ∧ Blk W7 (W4.heap.size) [.int .i64 gv.1.1, .int .i64 gv.1.2.1, .int .i64 gv.1.2.2, .int .i64 gv.2.1.1, .int .i64 gv.2.1.2.1, .int .i64 gv.2.1.2.2, .int .i64 gv.2.2.1.1, .int .i64 gv.2.2.1.2.1, .int .i64 gv.2.2.1.2.2, .int .i64 gv.2.2.2.1, .int .i64 gv.2.2.2.2.1, .int .i64 gv.2.2.2.2.2] ∧ Blk W7 (W5.heap.size) [.int .i64 gw.1.1, .int .i64 gw.1.2.1, .int .i64 gw.1.2.2, .int .i64 gw.2.1.1, .int .i64 gw.2.1.2.1, .int .i64 gw.2.1.2.2, .int .i64 gw.2.2.1.1, .int .i64 gw.2.2.1.2.1, .int .i64 gw.2.2.1.2.2, .int .i64 gw.2.2.2.1, .int .i64 gw.2.2.2.2.1, .int .i64 gw.2.2.2.2.2] ∧ Blk W7 (W6.heap.size) [.int .i64 gx.1.1, .int .i64 gx.1.2.1, .int .i64 gx.1.2.2, .int .i64 gx.2.1.1, .int .i64 gx.2.1.2.1, .int .i64 gx.2.1.2.2, .int .i64 gx.2.2.1.1, .int .i64 gx.2.2.1.2.1, .int .i64 gx.2.2.1.2.2, .int .i64 gx.2.2.2.1, .int .i64 gx.2.2.2.2.1, .int .i64 gx.2.2.2.2.2] := by
      refine ⟨?_, ?_, ?_, ?_, ?_, ?_, ?_⟩ <;> refine Blk.keep hb ?_ <;> (repeat' (first | (with_reducible first | assumption | refine Blk.drew ?_ | refine Blk.drewN ?_ _ | apply Blk.set | (refine Blk.new ?_; focus (first | rfl | (simp; done))) | refine Blk.alloc ?_ _ | refine Blk.other ?_ ?_ _) | exact eqL rfl | (refine neB ?_; omega)))
    have ca := Ba.cell
    have fa := Ba.free
    have la_W7 := Ba.lt
    have cb := Bb.cell
    have fb := Bb.free
    have lb_W7 := Bb.lt
    have co := Bo.cell
    have fo := Bo.free
    have lo_W7 := Bo.lt
    have cgu := Bgu.cell
    have fgu := Bgu.free
    have lgu_W7 := Bgu.lt
    have cgv := Bgv.cell
    have fgv := Bgv.free
    have lgv_W7 := Bgv.lt
    have cgw := Bgw.cell
    have fgw := Bgw.free
    have lgw_W7 := Bgw.lt
    have cgx := Bgx.cell
    have fgx := Bgx.free
    have lgx_W7 := Bgx.lt
    have kaW7 : Acc w W7 := by
      refine Acc.call ?_ hb
      (repeat' (first | (with_reducible first | assumption | exact Acc.refl _ | refine Acc.drew ?_ | refine Acc.drewN ?_ _ | refine Acc.alloc ?_ _ | refine Acc.setCell ?_ ?_ _) | (refine leB ?_; omega)))
    clear hb
    go_wp2_with fail
    refine (gaveT_at Cgl.out Dgl.out (implMDet_T b _ Ib (HL.out _ (by repeat' (first | (with_reducible first | assumption | exact Acc.refl _ | refine Acc.drew ?_ | refine Acc.drewN ?_ _ | refine Acc.alloc ?_ _ | refine Acc.setCell ?_ ?_ _) | (refine leB ?_; omega)))))).mono ?_
    rintro e W8 ⟨rfl, hb⟩
    obtain ⟨Ba, Bb, Bo, Bgu, Bgv, Bgw, Bgx, Bgk⟩ : Blk W8 (W0.heap.size) [.int .i64 a.1.1, .int .i64 a.1.2.1, .int .i64 a.1.2.2, .int .i64 a.2.1.1, .int .i64 a.2.1.2.1, .int .i64 a.2.1.2.2, .int .i64 a.2.2.1.1, .int .i64 a.2.2.1.2.1, .int .i64 a.2.2.1.2.2, .int .i64 a.2.2.2.1, .int .i64 a.2.2.2.2.1, .int .i64 a.2.2.2.2.2] ∧ Blk W8 (W0.heap.size + 1) [.int .i64 b.1.1, .int .i64 b.1.2.1, .int .i64 b.1.2.2, .int .i64 b.2.1.1, .int .i64 b.2.1.2.1, .int .i64 b.2.1.2.2, .int .i64 b.2.2.1.1, .int .i64 b.2.2.1.2.1, .int .i64 b.2.2.1.2.2, .int .i64 b.2.2.2.1, .int .i64 b.2.2.2.2.1, .int .i64 b.2.2.2.2.2] ∧ Blk W8 (W1.heap.size) [.int .i64 o.1.1, .int .i64 o.1.2.1, .int .i64 o.1.2.2, .int .i64 o.2.1.1, .int .i64 o.2.1.2.1, .int .i64 o.2.1.2.2, .int .i64 o.2.2.1.1, .int .i64 o.2.2.1.2.1, .int .i64 o.2.2.1.2.2, .int .i64 o.2.2.2.1, .int .i64 o.2.2.2.2.1, .int .i64 o.2.2.2.2.2] ∧ Blk W8 (W3.heap.size) [.int .i64 gu.1.1, .int .i64 gu.1.2.1, .int .i64 gu.1.2.2, .int .i64 gu.2.1.1, .int .i64 gu.2.1.2.1, .int .i64 gu.2.1.2.2, .int .i64 gu.2.2.1.1, .int .i64 gu.2.2.1.2.1, .int .i64 gu.2.2.1.2.2, .int .i64 gu.2.2.2.1, .int .i64 gu.2.2.2.2.1, .int .i64 gu.2.2.2.2.2] ∧ Blk W8 (W4.heap.size) [.int .i64 gv.1.1, .int .i64 gv.1.2.1, .int .i64 gv.1.2.2, .int .i64 gv.2.1.1, .int .i64 gv.2.1.2.1, .int .i64 gv.2.1.2.2, .int .i64 gv.2.2.1.1, .int .i64 gv.2.2.1.2.1, .int .i64 gv.2.2.1.2.2, .int .i64 gv.2.2.2.1, .int .i64 gv.2.2.2.2.1, .int .i64 gv.2.2.2.2.2] ∧ Blk W8 (W5.heap.size) [.int .i64 gw.1.1, .int .i64 gw.1.2.1, .int .i64 gw.1.2.2, .int .i64 gw.2.1.1, .int .i64 gw.2.1.2.1, .int .i64 gw.2.1.2.2, .int .i64 gw.2.2.1.1, .int .i64 gw.2.2.1.2.1, .int .i64 gw.2.2.1.2.2, .int .i64 gw.2.2.2.1, .int .i64 gw.2.2.2.2.1, .int .i64 gw.2.2.2.2.2] ∧ Blk W8 (W6.heap.size) [.int .i64 gx.1.1, .int .i64 gx.1.2.1, .int .i64 gx.1.2.2, .int .i64 gx.2.1.1, .int .i64 gx.2.1.2.1, .int .i64 gx.2.1.2.2, .int .i64 gx.2.2.1.1, .int .i64 gx.2.2.1.2.1, .int .i64 gx.2.2.1.2.2, .int .i64 gx.2.2.2.1, .int .i64 gx.2.2.2.2.1, .int .i64 gx.2.2.2.2.2] ∧ Blk W8 (W7.heap.size) [.int .i64 gk.1, .int .i64 gk.2.1, .int .i64 gk.2.2] := by
      refine ⟨?_, ?_, ?_, ?_, ?_, ?_, ?_, ?_⟩ <;> refine Blk.keep hb ?_ <;> (repeat' (first | (with_reducible first | assumption | refine Blk.drew ?_ | refine Blk.drewN ?_ _ | apply Blk.set | (refine Blk.new ?_; focus (first | rfl | (simp; done))) | refine Blk.alloc ?_ _ | refine Blk.other ?_ ?_ _) | exact eqL rfl | (refine neB ?_; omega)))
    have ca := Ba.cell
    have fa := Ba.free
    have la_W8 := Ba.lt
    have cb := Bb.cell
    have fb := Bb.free
    have lb_W8 := Bb.lt
    have co := Bo.cell
    have fo := Bo.free
    have lo_W8 := Bo.lt
    have cgu := Bgu.cell
    have fgu := Bgu.free
    have lgu_W8 := Bgu.lt
    have cgv := Bgv.cell
    have fgv := Bgv.free
    have lgv_W8 := Bgv.lt
    have cgw := Bgw.cell
    have fgw := Bgw.free
    have lgw_W8 := Bgw.lt
    have cgx := Bgx.cell
    have fgx := Bgx.free
    have lgx_W8 := Bgx.lt
    have cgk := Bgk.cell
    have fgk := Bgk.free
    have lgk_W8 := Bgk.lt
    have kaW8 : Acc w W8 := by
      refine Acc.call ?_ hb
      (repeat' (first | (with_reducible first | assumption | exact Acc.refl _ | refine Acc.drew ?_ | refine Acc.drewN ?_ _ | refine Acc.alloc ?_ _ | refine Acc.setCell ?_ ?_ _) | (refine leB ?_; omega)))
    clear hb
    go_wp2_with fail
    refine (gaveT_at Cgm.out Dgm.out (implMDet_T o _ Io (HL.out _ (by repeat' (first | (with_reducible first | assumption | exact Acc.refl _ | refine Acc.drew ?_ | refine Acc.drewN ?_ _ | refine Acc.alloc ?_ _ | refine Acc.setCell ?_ ?_ _) | (refine leB ?_; omega)))))).mono ?_
    rintro e W9 ⟨rfl, hb⟩
    obtain ⟨Ba, Bb, Bo, Bgu, Bgv, Bgw, Bgx, Bgk, Bgl⟩ : Blk W9 (W0.heap.size) [.int .i64 a.1.1, .int .i64 a.1.2.1, .int .i64 a.1.2.2, .int .i64 a.2.1.1, .int .i64 a.2.1.2.1, .int .i64 a.2.1.2.2, .int .i64 a.2.2.1.1, .int .i64 a.2.2.1.2.1, .int .i64 a.2.2.1.2.2, .int .i64 a.2.2.2.1, .int .i64 a.2.2.2.2.1, .int .i64 a.2.2.2.2.2] ∧ Blk W9 (W0.heap.size + 1) [.int .i64 b.1.1, .int .i64 b.1.2.1, .int .i64 b.1.2.2, .int .i64 b.2.1.1, .int .i64 b.2.1.2.1, .int .i64 b.2.1.2.2, .int .i64 b.2.2.1.1, .int .i64 b.2.2.1.2.1, .int .i64 b.2.2.1.2.2, .int .i64 b.2.2.2.1, .int .i64 b.2.2.2.2.1, .int .i64 b.2.2.2.2.2] ∧ Blk W9 (W1.heap.size) [.int .i64 o.1.1, .int .i64 o.1.2.1, .int .i64 o.1.2.2, .int .i64 o.2.1.1, .int .i64 o.2.1.2.1, .int .i64 o.2.1.2.2, .int .i64 o.2.2.1.1, .int .i64 o.2.2.1.2.1, .int .i64 o.2.2.1.2.2, .int .i64 o.2.2.2.1, .int .i64 o.2.2.2.2.1, .int .i64 o.2.2.2.2.2] ∧ Blk W9 (W3.heap.size) [.int .i64 gu.1.1, .int .i64 gu.1.2.1, .int .i64 gu.1.2.2, .int .i64 gu.2.1.1, .int .i64 gu.2.1.2.1, .int .i64 gu.2.1.2.2, .int .i64 gu.2.2.1.1, .int .i64 gu.2.2.1.2.1, .int .i64 gu.2.2.1.2.2, .int .i64 gu.2.2.2.1, .int .i64 gu.2.2.2.2.1, .int .i64 gu.2.2.2.2.2] ∧ Blk W9 (W4.heap.size) [.int .i64 gv.1.1, .int .i64 gv.1.2.1, .int .i64 gv.1.2.2, .int .i64 gv.2.1.1, .int .i64 gv.2.1.2.1, .int .i64 gv.2.1.2.2, .int .i64 gv.2.2.1.1, .int .i64 gv.2.2.1.2.1, .int .i64 gv.2.2.1.2.2, .int .i64 gv.2.2.2.1, .int .i64 gv.2.2.2.2.1, .int .i64 gv.2.2.2.2.2] ∧ Blk W9 (W5.heap.size) [.int .i64 gw.1.1, .int .i64 gw.1.2.1, .int .i64 gw.1.2.2, .int .i64 gw.2.1.1, .int .i64 gw.2.1.2.1, .int .i64 gw.2.1.2.2, .int .i64 gw.2.2.1.1, .int .i64 gw.2.2.1.2.1, .int .i64 gw.2.2.1.2.2, .int .i64 gw.2.2.2.1, .int .i64 gw.2.2.2.2.1, .int .i64 gw.2.2.2.2.2] ∧ Blk W9 (W6.heap.size) [.int .i64 gx.1.1, .int .i64 gx.1.2.1, .int .i64 gx.1.2.2, .int .i64 gx.2.1.1, .int .i64 gx.2.1.2.1, .int .i64 gx.2.1.2.2, .int .i64 gx.2.2.1.1, .int .i64 gx.2.2.1.2.1, .int .i64 gx.2.2.1.2.2, .int .i64 gx.2.2.2.1, .int .i64 gx.2.2.2.2.1, .int .i64 gx.2.2.2.2.2] ∧ Blk W9 (W7.heap.size) [.int .i64 gk.1, .int .i64 gk.2.1, .int .i64 gk.2.2] ∧ Blk W9 (W8.heap.size) [.int .i64 gl.1, .int .i64 gl.2.1, .int .i64 gl.2.2] := by
      refine ⟨?_, ?_, ?_, ?_, ?_, ?_, ?_, ?_, ?_⟩ <;> refine Blk.keep hb ?_ <;> (repeat' (first | (with_reducible first | assumption | refine Blk.drew ?_ | refine Blk.drewN ?_ _ | apply Blk.set | (refine Blk.new ?_; focus (first | rfl | (simp; done))) | refine Blk.alloc ?_ _ | refine Blk.other ?_ ?_ _) | exact eqL rfl | (refine neB ?_; omega)))
    have ca := Ba.cell
    have fa := Ba.free
    have la_W9 := Ba.lt
    have cb := Bb.cell
    have fb := Bb.free
    have lb_W9 := Bb.lt
    have co := Bo.cell
    have fo := Bo.free
    have lo_W9 := Bo.lt
    have cgu := Bgu.cell
    have fgu := Bgu.free
    have lgu_W9 := Bgu.lt
    have cgv := Bgv.cell
    have fgv := Bgv.free
    have lgv_W9 := Bgv.lt
    have cgw := Bgw.cell
    have fgw := Bgw.free
    have lgw_W9 := Bgw.lt
    have cgx := Bgx.cell
    have fgx := Bgx.free
    have lgx_W9 := Bgx.lt
    have cgk := Bgk.cell
    have fgk := Bgk.free
    have lgk_W9 := Bgk.lt
    have cgl := Bgl.cell
    have fgl := Bgl.free
    have lgl_W9 := Bgl.lt
    have kaW9 : Acc w W9 := by
      refine Acc.call ?_ hb
      (repeat' (first | (with_reducible first | assumption | exact Acc.refl _ | refine Acc.drew ?_ | refine Acc.drewN ?_ _ | refine Acc.alloc ?_ _ | refine Acc.setCell ?_ ?_ _) | (refine leB ?_; omega)))
    clear hb
    go_wp2_with fail
    refine (gaveT_at Cgn.out Dgn.out (implTimes_T gk gl _ Igk Igl (HL.out _ (by repeat' (first | (with_reducible first | assumption | exact Acc.refl _ | refine Acc.drew ?_ | refine Acc.drewN ?_ _ | refine Acc.alloc ?_ _ | refine Acc.setCell ?_ ?_ _) | (refine leB ?_; omega)))))).mono ?_
    rintro e W10 ⟨rfl, hb⟩
    obtain ⟨Ba, Bb, Bo, Bgu, Bgv, Bgw, Bgx, Bgk, Bgl, Bgm⟩ : Blk W10 (W0.heap.size) [.int .i64 a.1.1, .int .i64 a.1.2.1, .int .i64 a.1.2.2, .int .i64 a.2.1.1, .int .i64 a.2.1.2.1, .int .i64 a.2.1.2.2, .int .i64 a.2.2.1.1, .int .i64 a.2.2.1.2.1, .int .i64 a.2.2.1.2.2, .int .i64 a.2.2.2.1, .int .i64 a.2.2.2.2.1, .int .i64 a.2.2.2.2.2] ∧ Blk W10 (W0.heap.size + 1) [.int .i64 b.1.1, .int .i64 b.1.2.1, .int .i64 b.1.2.2, .int .i64 b.2.1.1, .int .i64 b.2.1.2.1, .int .i64 b.2.1.2.2, .int .i64 b.2.2.1.1, .int .i64 b.2.2.1.2.1, .int .i64 b.2.2.1.2.2, .int .i64 b.2.2.2.1, .int .i64 b.2.2.2.2.1, .int .i64 b.2.2.2.2.2] ∧ Blk W10 (W1.heap.size) [.int .i64 o.1.1, .int .i64 o.1.2.1, .int .i64 o.1.2.2, .int .i64 o.2.1.1, .int .i64 o.2.1.2.1, .int .i64 o.2.1.2.2, .int .i64 o.2.2.1.1, .int .i64 o.2.2.1.2.1, .int .i64 o.2.2.1.2.2, .int .i64 o.2.2.2.1, .int .i64 o.2.2.2.2.1, .int .i64 o.2.2.2.2.2] ∧ Blk W10 (W3.heap.size) [.int .i64 gu.1.1, .int .i64 gu.1.2.1, .int .i64 gu.1.2.2, .int .i64 gu.2.1.1, .int .i64 gu.2.1.2.1, .int .i64 gu.2.1.2.2, .int .i64 gu.2.2.1.1, .int .i64 gu.2.2.1.2.1, .int .i64 gu.2.2.1.2.2, .int .i64 gu.2.2.2.1, .int .i64 gu.2.2.2.2.1, .int .i64 gu.2.2.2.2.2] ∧ Blk W10 (W4.heap.size) [.int .i64 gv.1.1, .int .i64 gv.1.2.1, .int .i64 gv.1.2.2, .int .i64 gv.2.1.1, .int .i64 gv.2.1.2.1, .int .i64 gv.2.1.2.2, .int .i64 gv.2.2.1.1, .int .i64 gv.2.2.1.2.1, .int .i64 gv.2.2.1.2.2, .int .i64 gv.2.2.2.1, .int .i64 gv.2.2.2.2.1, .int .i64 gv.2.2.2.2.2] ∧ Blk W10 (W5.heap.size) [.int .i64 gw.1.1, .int .i64 gw.1.2.1, .int .i64 gw.1.2.2, .int .i64 gw.2.1.1, .int .i64 gw.2.1.2.1, .int .i64 gw.2.1.2.2, .int .i64 gw.2.2.1.1, .int .i64 gw.2.2.1.2.1, .int .i64 gw.2.2.1.2.2, .int .i64 gw.2.2.2.1, .int .i64 gw.2.2.2.2.1, .int .i64 gw.2.2.2.2.2] ∧ Blk W10 (W6.heap.size) [.int .i64 gx.1.1, .int .i64 gx.1.2.1, .int .i64 gx.1.2.2, .int .i64 gx.2.1.1, .int .i64 gx.2.1.2.1, .int .i64 gx.2.1.2.2, .int .i64 gx.2.2.1.1, .int .i64 gx.2.2.1.2.1, .int .i64 gx.2.2.1.2.2, .int .i64 gx.2.2.2.1, .int .i64 gx.2.2.2.2.1, .int .i64 gx.2.2.2.2.2] ∧ Blk W10 (W7.heap.size) [.int .i64 gk.1, .int .i64 gk.2.1, .int .i64 gk.2.2] ∧ Blk W10 (W8.heap.size) [.int .i64 gl.1, .int .i64 gl.2.1, .int .i64 gl.2.2] ∧ Blk W10 (W9.heap.size) [.int .i64 gm.1, .int .i64 gm.2.1, .int .i64 gm.2.2] := by
      refine ⟨?_, ?_, ?_, ?_, ?_, ?_, ?_, ?_, ?_, ?_⟩ <;> refine Blk.keep hb ?_ <;> (repeat' (first | (with_reducible first | assumption | refine Blk.drew ?_ | refine Blk.drewN ?_ _ | apply Blk.set | (refine Blk.new ?_; focus (first | rfl | (simp; done))) | refine Blk.alloc ?_ _ | refine Blk.other ?_ ?_ _) | exact eqL rfl | (refine neB ?_; omega)))
    have ca := Ba.cell
    have fa := Ba.free
    have la_W10 := Ba.lt
    have cb := Bb.cell
    have fb := Bb.free
    have lb_W10 := Bb.lt
    have co := Bo.cell
    have fo := Bo.free
    have lo_W10 := Bo.lt
    have cgu := Bgu.cell
    have fgu := Bgu.free
    have lgu_W10 := Bgu.lt
    have cgv := Bgv.cell
    have fgv := Bgv.free
    have lgv_W10 := Bgv.lt
    have cgw := Bgw.cell
    have fgw := Bgw.free
    have lgw_W10 := Bgw.lt
    have cgx := Bgx.cell
    have fgx := Bgx.free
    have lgx_W10 := Bgx.lt
    have cgk := Bgk.cell
    have fgk := Bgk.free
    have lgk_W10 := Bgk.lt
    have cgl := Bgl.cell
    have fgl := Bgl.free
    have lgl_W10 := Bgl.lt
    have cgm := Bgm.cell
    have fgm := Bgm.free
    have lgm_W10 := Bgm.lt
    have kaW10 : Acc w W10 := by
      refine Acc.call ?_ hb
      (repeat' (first | (with_reducible first | assumption | exact Acc.refl _ | refine Acc.drew ?_ | refine Acc.drewN ?_ _ | refine Acc.alloc ?_ _ | refine Acc.setCell ?_ ?_ _) | (refine leB ?_; omega)))
    clear hb
    have qgw := eqMSame gw
    have qgm := eqTSame gm
    cases px with
    | false =>
      cases pk with
      | false =>
        go_wp2_with fail
        all_goals
          go_ret
          refine ⟨by first | rfl | (simp [*]; done) | (simp [go_sem, *]; done), ?_⟩
          show Acc w _
          (repeat' (first | (with_reducible first | assumption | exact Acc.refl _ | refine Acc.drew ?_ | refine Acc.drewN ?_ _ | refine Acc.alloc ?_ _ | refine Acc.setCell ?_ ?_ _) | (refine leB ?_; omega)))
      | true =>
        cases pl with
        | false =>
          go_wp2_with fail
          all_goals
            go_ret
            refine ⟨by first | rfl | (simp [*]; done) | (simp [go_sem, *]; done), ?_⟩
            show Acc w _
            (repeat' (first | (with_reducible first | assumption | exact Acc.refl _ | refine Acc.drew ?_ | refine Acc.drewN ?_ _ | refine Acc.alloc ?_ _ | refine Acc.setCell ?_ ?_ _) | (refine leB ?_; omega)))
        | true =>
          cases pm with
          | false =>
            go_wp2_with fail
            all_goals
              go_ret
              refine ⟨by first | rfl | (simp [*]; done) | (simp [go_sem, *]; done), ?_⟩
              show Acc w _
              (repeat' (first | (with_reducible first | assumption | exact Acc.refl _ | refine Acc.drew ?_ | refine Acc.drewN ?_ _ | refine Acc.alloc ?_ _ | refine Acc.setCell ?_ ?_ _) | (refine leB ?_; omega)))
          | true =>
            cases pn with
            | false =>
              go_wp2_with fail
              all_goals
                go_ret
                refine ⟨by first | rfl | (simp [*]; done) | (simp [go_sem, *]; done), ?_⟩
                show Acc w _
                (repeat' (first | (with_reducible first | assumption | exact Acc.refl _ | refine Acc.drew ?_ | refine Acc.drewN ?_ _ | refine Acc.alloc ?_ _ | refine Acc.setCell ?_ ?_ _) | (refine leB ?_; omega)))
            | true =>
              obtain rfl : gm = gn := mul_det HO.out (someT Cgk.out Dgk.out) (someT Cgl.out Dgl.out) (someT Cgm.out Dgm.out) (someT Cgn.out Dgn.out)
              go_wp2_with fail
              all_goals
                go_ret
                refine ⟨by first | rfl | (simp [*]; done) | (simp [go_sem, *]; done), ?_⟩
                show Acc w _
                (repeat' (first | (with_reducible first | assumption | exact Acc.refl _ | refine Acc.drew ?_ | refine Acc.drewN ?_ _ | refine Acc.alloc ?_ _ | refine Acc.setCell ?_ ?_ _) | (refine leB ?_; omega)))
    | true =>
      obtain rfl : gw = gx := (mul_adj HO.out (someM Cgu.out Dgu.out) (someM Cgv.out Dgv.out) (someM Cgw.out Dgw.out) (someM Cgx.out Dgx.out)).symm
      cases pk with
      | false =>
        go_wp2_with fail
        all_goals
          go_ret
          refine ⟨by first | rfl | (simp [*]; done) | (simp [go_sem, *]; done), ?_⟩
          show Acc w _
          (repeat' (first | (with_reducible first | assumption | exact Acc.refl _ | refine Acc.drew ?_ | refine Acc.drewN ?_ _ | refine Acc.alloc ?_ _ | refine Acc.setCell ?_ ?_ _) | (refine leB ?_; omega)))
      | true =>
        cases pl with
        | false =>
          go_wp2_with fail
          all_goals
            go_ret
            refine ⟨by first | rfl | (simp [*]; done) | (simp [go_sem, *]; done), ?_⟩
            show Acc w _
            (repeat' (first | (with_reducible first | assumption | exact Acc.refl _ | refine Acc.drew ?_ | refine Acc.drewN ?_ _ | refine Acc.alloc ?_ _ | refine Acc.setCell ?_ ?_ _) | (refine leB ?_; omega)))
        | true =>
          cases pm with
          | false =>
            go_wp2_with fail
            all_goals
              go_ret
              refine ⟨by first | rfl | (simp [*]; done) | (simp [go_sem, *]; done), ?_⟩
              show Acc w _
              (repeat' (first | (with_reducible first | assumption | exact Acc.refl _ | refine Acc.drew ?_ | refine Acc.drewN ?_ _ | refine Acc.alloc ?_ _ | refine Acc.setCell ?_ ?_ _) | (refine leB ?_; omega)))
          | true =>
            cases pn with
            | false =>
              go_wp2_with fail
              all_goals
                go_ret
                refine ⟨by first | rfl | (simp [*]; done) | (simp [go_sem, *]; done), ?_⟩
                show Acc w _
                (repeat' (first | (with_reducible first | assumption | exact Acc.refl _ | refine Acc.drew ?_ | refine Acc.drewN ?_ _ | refine Acc.alloc ?_ _ | refine Acc.setCell ?_ ?_ _) | (refine leB ?_; omega)))
            | true =>
              obtain rfl : gm = gn := mul_det HO.out (someT Cgk.out Dgk.out) (someT Cgl.out Dgl.out) (someT Cgm.out Dgm.out) (someT Cgn.out Dgn.out)
              go_wp2_with fail
              all_goals
                go_ret
                refine ⟨by first | rfl | (simp [*]; done) | (simp [go_sem, *]; done), ?_⟩
                show Acc w _
                (repeat' (first | (with_reducible first | assumption | exact Acc.refl _ | refine Acc.drew ?_ | refine Acc.drewN ?_ _ | refine Acc.alloc ?_ _ | refine Acc.setCell ?_ ?_ _) | (refine leB ?_; omega)))
end Go.Proofs.YtnfbopaafciiiabDoor
