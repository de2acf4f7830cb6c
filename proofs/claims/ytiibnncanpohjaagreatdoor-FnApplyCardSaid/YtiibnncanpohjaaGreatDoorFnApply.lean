/-
  The law FnApply.
-/
import Derived.Test.YtiibnncanpohjaaGreatDoorBDrawM
import Derived.Test.YtiibnncanpohjaaGreatDoorMatTS
import Derived.Test.YtiibnncanpohjaaGreatDoorMatTI
import Derived.Test.YtiibnncanpohjaaGreatDoorBMath
import Derived.Test.YtiibnncanpohjaaGreatDoorMatTIL
import Derived.Test.YtiibnncanpohjaaGreatDoorMatTJ
namespace Go.Proofs.YtiibnncanpohjaaGreatDoor
open Go.ChangeShapes Go.WideShapes Go.ChangeAt Go.RowKit
set_option linter.unusedVariables false

set_option maxRecDepth 100000 in
set_option maxHeartbeats 16000000 in
theorem fnApply_law (w : World) (hl : Laid w) (s : Option Addr) (len cap : Nat) (h : Code8 w s len cap) :
    Calls Tryz.prog 3 #[.slice s len cap] w (Fine w) := by
  have hm := h.2.1
  have hl' := h.1
  unfold maxLen at hm
  have HL := Lib.hid fun W (k : Acc w W) => hl.acc k
  clear hl
  by_cases hlen : 1048576 < len
  · clear h
    have hlen' : (1048576 : Int) < (len : Int) := by omega
    go_enter Tryz.func3, Tryz.ntmps3
    go_wp2_with fail
    go_ret
    exact ⟨rfl, Below.refl _ _⟩
  have hlen' : ¬ (1048576 : Int) < (len : Int) := by omega
  go_enter Tryz.func3, Tryz.ntmps3
  go_wp2_with fail
  refine (drawMatApply_any s len cap w h).mono ?_
  rintro e W0 ⟨a, v, rfl, Ia, Iv, hb⟩
  have kaW0 : Acc w W0 := hb
  clear hb h
  go_wp2_with fail
  obtain ⟨o, hx⟩ : ∃ x9, valJ (appM a v) = x9 := ⟨_, rfl⟩
  obtain ⟨po, hs⟩ : ∃ s9, (appM a v).isSome = s9 := ⟨_, rfl⟩
  have Io := valJ_i64 (fun r h => appM_ok h) hx
  have Co := Lib.hid hx
  have Do := Lib.hid hs
  clear hx hs
  cases po with
  | false =>
    refine (gaveJ_at Co.out Do.out (implMApply_T a v _ Ia Iv (HL.out _ (by repeat' (first | (with_reducible first | assumption | exact Acc.refl _ | refine Acc.drew ?_ | refine Acc.drewN ?_ _ | refine Acc.alloc ?_ _ | refine Acc.setCell ?_ ?_ _) | (refine leB ?_; omega)))))).mono ?_
    rintro e W1 ⟨rfl, hb⟩
    obtain ⟨Ba, Bv⟩ : Blk W1 (W0.heap.size) [.int .i64 a.1.1, .int .i64 a.1.2.1, .int .i64 a.1.2.2, .int .i64 a.2.1.1, .int .i64 a.2.1.2.1, .int .i64 a.2.1.2.2, .int .i64 a.2.2.1.1, .int .i64 a.2.2.1.2.1, .int .i64 a.2.2.1.2.2, .int .i64 a.2.2.2.1, .int .i64 a.2.2.2.2.1, .int .i64 a.2.2.2.2.2] ∧ Blk W1 (W0.heap.size + 1) [.int .i64 v.1.1, .int .i64 v.1.2.1, .int .i64 v.1.2.2, .int .i64 v.2.1, .int .i64 v.2.2.1, .int .i64 v.2.2.2] := by
      refine ⟨?_, ?_⟩ <;> refine Blk.keep hb ?_ <;> (repeat' (first | (with_reducible first | assumption | refine Blk.drew ?_ | refine Blk.drewN ?_ _ | apply Blk.set | (refine Blk.new ?_; focus (first | rfl | (simp; done))) | refine Blk.alloc ?_ _ | refine Blk.other ?_ ?_ _) | exact eqL rfl | (refine neB ?_; omega)))
    have ca := Ba.cell
    have fa := Ba.free
    have la_W1 := Ba.lt
    have cv := Bv.cell
    have fv := Bv.free
    have lv_W1 := Bv.lt
    have kaW1 : Acc w W1 := by
      refine Acc.call ?_ hb
      (repeat' (first | (with_reducible first | assumption | exact Acc.refl _ | refine Acc.drew ?_ | refine Acc.drewN ?_ _ | refine Acc.alloc ?_ _ | refine Acc.setCell ?_ ?_ _) | (refine leB ?_; omega)))
    clear hb
    go_wp2_with fail
    refine (gaveJ_at Co.out Do.out (specMApply_T a v _)).mono ?_
    rintro e W2 ⟨rfl, hb⟩
    obtain ⟨Ba, Bv, Bo⟩ : Blk W2 (W0.heap.size) [.int .i64 a.1.1, .int .i64 a.1.2.1, .int .i64 a.1.2.2, .int .i64 a.2.1.1, .int .i64 a.2.1.2.1, .int .i64 a.2.1.2.2, .int .i64 a.2.2.1.1, .int .i64 a.2.2.1.2.1, .int .i64 a.2.2.1.2.2, .int .i64 a.2.2.2.1, .int .i64 a.2.2.2.2.1, .int .i64 a.2.2.2.2.2] ∧ Blk W2 (W0.heap.size + 1) [.int .i64 v.1.1, .int .i64 v.1.2.1, .int .i64 v.1.2.2, .int .i64 v.2.1, .int .i64 v.2.2.1, .int .i64 v.2.2.2] ∧ Blk W2 (W1.heap.size) [.int .i64 o.1.1, .int .i64 o.1.2.1, .int .i64 o.1.2.2, .int .i64 o.2.1, .int .i64 o.2.2.1, .int .i64 o.2.2.2] := by
      refine ⟨?_, ?_, ?_⟩ <;> refine Blk.keep hb ?_ <;> (repeat' (first | (with_reducible first | assumption | refine Blk.drew ?_ | refine Blk.drewN ?_ _ | apply Blk.set | (refine Blk.new ?_; focus (first | rfl | (simp; done))) | refine Blk.alloc ?_ _ | refine Blk.other ?_ ?_ _) | exact eqL rfl | (refine neB ?_; omega)))
    have ca := Ba.cell
    have fa := Ba.free
    have la_W2 := Ba.lt
    have cv := Bv.cell
    have fv := Bv.free
    have lv_W2 := Bv.lt
    have co := Bo.cell
    have fo := Bo.free
    have lo_W2 := Bo.lt
    have kaW2 : Acc w W2 := by
      refine Acc.call ?_ hb
      (repeat' (first | (with_reducible first | assumption | exact Acc.refl _ | refine Acc.drew ?_ | refine Acc.drewN ?_ _ | refine Acc.alloc ?_ _ | refine Acc.setCell ?_ ?_ _) | (refine leB ?_; omega)))
    clear hb
    go_wp2_with fail
    all_goals
      go_ret
      refine ⟨by first | rfl | (simp [*]; done) | (simp [go_sem, *]; done), ?_⟩
      show Acc w _
      (repeat' (first | (with_reducible first | assumption | exact Acc.refl _ | refine Acc.drew ?_ | refine Acc.drewN ?_ _ | refine Acc.alloc ?_ _ | refine Acc.setCell ?_ ?_ _) | (refine leB ?_; omega)))
  | true =>
    have HO := Lib.hid (someJ Co.out Do.out)
    refine (gaveJ_at Co.out Do.out (implMApply_T a v _ Ia Iv (HL.out _ (by repeat' (first | (with_reducible first | assumption | exact Acc.refl _ | refine Acc.drew ?_ | refine Acc.drewN ?_ _ | refine Acc.alloc ?_ _ | refine Acc.setCell ?_ ?_ _) | (refine leB ?_; omega)))))).mono ?_
    rintro e W1 ⟨rfl, hb⟩
    obtain ⟨Ba, Bv⟩ : Blk W1 (W0.heap.size) [.int .i64 a.1.1, .int .i64 a.1.2.1, .int .i64 a.1.2.2, .int .i64 a.2.1.1, .int .i64 a.2.1.2.1, .int .i64 a.2.1.2.2, .int .i64 a.2.2.1.1, .int .i64 a.2.2.1.2.1, .int .i64 a.2.2.1.2.2, .int .i64 a.2.2.2.1, .int .i64 a.2.2.2.2.1, .int .i64 a.2.2.2.2.2] ∧ Blk W1 (W0.heap.size + 1) [.int .i64 v.1.1, .int .i64 v.1.2.1, .int .i64 v.1.2.2, .int .i64 v.2.1, .int .i64 v.2.2.1, .int .i64 v.2.2.2] := by
      refine ⟨?_, ?_⟩ <;> refine Blk.keep hb ?_ <;> (repeat' (first | (with_reducible first | assumption | refine Blk.drew ?_ | refine Blk.drewN ?_ _ | apply Blk.set | (refine Blk.new ?_; focus (first | rfl | (simp; done))) | refine Blk.alloc ?_ _ | refine Blk.other ?_ ?_ _) | exact eqL rfl | (refine neB ?_; omega)))
    have ca := Ba.cell
    have fa := Ba.free
    have la_W1 := Ba.lt
    have cv := Bv.cell
    have fv := Bv.free
    have lv_W1 := Bv.lt
    have kaW1 : Acc w W1 := by
      refine Acc.call ?_ hb
      (repeat' (first | (with_reducible first | assumption | exact Acc.refl _ | refine Acc.drew ?_ | refine Acc.drewN ?_ _ | refine Acc.alloc ?_ _ | refine Acc.setCell ?_ ?_ _) | (refine leB ?_; omega)))
    clear hb
    go_wp2_with fail
    refine (gaveJ_at Co.out Do.out (specMApply_T a v _)).mono ?_
    rintro e W2 ⟨rfl, hb⟩
    obtain ⟨Ba, Bv, Bo⟩ : Blk W2 (W0.heap.size) [.int .i64 a.1.1, .int .i64 a.1.2.1, .int .i64 a.1.2.2, .int .i64 a.2.1.1, .int .i64 a.2.1.2.1, .int .i64 a.2.1.2.2, .int .i64 a.2.2.1.1, .int .i64 a.2.2.1.2.1, .int .i64 a.2.2.1.2.2, .int .i64 a.2.2.2.1, .int .i64 a.2.2.2.2.1, .int .i64 a.2.2.2.2.2] ∧ Blk W2 (W0.heap.size + 1) [.int .i64 v.1.1, .int .i64 v.1.2.1, .int .i64 v.1.2.2, .int .i64 v.2.1, .int .i64 v.2.2.1, .int .i64 v.2.2.2] ∧ Blk W2 (W1.heap.size) [.int .i64 o.1.1, .int .i64 o.1.2.1, .int .i64 o.1.2.2, .int .i64 o.2.1, .int .i64 o.2.2.1, .int .i64 o.2.2.2] := by
      refine ⟨?_, ?_, ?_⟩ <;> refine Blk.keep hb ?_ <;> (repeat' (first | (with_reducible first | assumption | refine Blk.drew ?_ | refine Blk.drewN ?_ _ | apply Blk.set | (refine Blk.new ?_; focus (first | rfl | (simp; done))) | refine Blk.alloc ?_ _ | refine Blk.other ?_ ?_ _) | exact eqL rfl | (refine neB ?_; omega)))
    have ca := Ba.cell
    have fa := Ba.free
    have la_W2 := Ba.lt
    have cv := Bv.cell
    have fv := Bv.free
    have lv_W2 := Bv.lt
    have co := Bo.cell
    have fo := Bo.free
    have lo_W2 := Bo.lt
    have kaW2 : Acc w W2 := by
      refine Acc.call ?_ hb
      (repeat' (first | (with_reducible first | assumption | exact Acc.refl _ | refine Acc.drew ?_ | refine Acc.drewN ?_ _ | refine Acc.alloc ?_ _ | refine Acc.setCell ?_ ?_ _) | (refine leB ?_; omega)))
    clear hb
    go_wp2_with fail
    obtain ⟨gn, hx⟩ : ∃ x9, valT (pT o.1 o.2) = x9 := ⟨_, rfl⟩
    obtain ⟨pn, hs⟩ : ∃ s9, (pT o.1 o.2).isSome = s9 := ⟨_, rfl⟩
    have Ign := valT_i64 (fun r h => (pT_val h).1) hx
    have Cgn := Lib.hid hx
    have Dgn := Lib.hid hs
    clear hx hs
    obtain ⟨gm, hx⟩ : ∃ x9, valT (pT v.1 v.2) = x9 := ⟨_, rfl⟩
    obtain ⟨pm, hs⟩ : ∃ s9, (pT v.1 v.2).isSome = s9 := ⟨_, rfl⟩
    have Igm := valT_i64 (fun r h => (pT_val h).1) hx
    have Cgm := Lib.hid hx
    have Dgm := Lib.hid hs
    clear hx hs
    obtain ⟨gb, hx⟩ : ∃ x9, valM (adjM a) = x9 := ⟨_, rfl⟩
    obtain ⟨pb, hs⟩ : ∃ s9, (adjM a).isSome = s9 := ⟨_, rfl⟩
    have Igb := valM_i64 (fun r h => (adjM_ok h).2) hx
    have Cgb := Lib.hid hx
    have Dgb := Lib.hid hs
    clear hx hs
    obtain rfl : true = pb := (adjM_told (appM_okM HO.out)).symm.trans Dgb.out
    obtain ⟨gs, hx⟩ : ∃ x9, valJ (appM gb o) = x9 := ⟨_, rfl⟩
    obtain ⟨ps, hs⟩ : ∃ s9, (appM gb o).isSome = s9 := ⟨_, rfl⟩
    have Igs := valJ_i64 (fun r h => appM_ok h) hx
    have Cgs := Lib.hid hx
    have Dgs := Lib.hid hs
    clear hx hs
    obtain ⟨gx, hx⟩ : ∃ x9, valT (nT v.1 v.2 gs.1 gs.2) = x9 := ⟨_, rfl⟩
    obtain ⟨px, hs⟩ : ∃ s9, (nT v.1 v.2 gs.1 gs.2).isSome = s9 := ⟨_, rfl⟩
    have Igx := valT_i64 (fun r h => (nT_val h).1) hx
    have Cgx := Lib.hid hx
    have Dgx := Lib.hid hs
    clear hx hs
    obtain ⟨pl, hs⟩ : ∃ s9, losM a = s9 := ⟨_, rfl⟩
    have Dpl := Lib.hid hs
    clear hs
    refine (gaveT_at Cgn.out Dgn.out (implJPower_T o _ Io (HL.out _ (by repeat' (first | (with_reducible first | assumption | exact Acc.refl _ | refine Acc.drew ?_ | refine Acc.drewN ?_ _ | refine Acc.alloc ?_ _ | refine Acc.setCell ?_ ?_ _) | (refine leB ?_; omega)))))).mono ?_
    rintro e W3 ⟨rfl, hb⟩
    obtain ⟨Ba, Bv, Bo⟩ : Blk W3 (W0.heap.size) [.int .i64 a.1.1, .int .i64 a.1.2.1, .int .i64 a.1.2.2, .int .i64 a.2.1.1, .int .i64 a.2.1.2.1, .int .i64 a.2.1.2.2, .int .i64 a.2.2.1.1, .int .i64 a.2.2.1.2.1, .int .i64 a.2.2.1.2.2, .int .i64 a.2.2.2.1, .int .i64 a.2.2.2.2.1, .int .i64 a.2.2.2.2.2] ∧ Blk W3 (W0.heap.size + 1) [.int .i64 v.1.1, .int .i64 v.1.2.1, .int .i64 v.1.2.2, .int .i64 v.2.1, .int .i64 v.2.2.1, .int .i64 v.2.2.2] ∧ Blk W3 (W1.heap.size) [.int .i64 o.1.1, .int .i64 o.1.2.1, .int .i64 o.1.2.2, .int .i64 o.2.1, .int .i64 o.2.2.1, .int .i64 o.2.2.2] := by
      refine ⟨?_, ?_, ?_⟩ <;> refine Blk.keep hb ?_ <;> (repeat' (first | (with_reducible first | assumption | refine Blk.drew ?_ | refine Blk.drewN ?_ _ | apply Blk.set | (refine Blk.new ?_; focus (first | rfl | (simp; done))) | refine Blk.alloc ?_ _ | refine Blk.other ?_ ?_ _) | exact eqL rfl | (refine neB ?_; omega)))
    have ca := Ba.cell
    have fa := Ba.free
    have la_W3 := Ba.lt
    have cv := Bv.cell
    have fv := Bv.free
    have lv_W3 := Bv.lt
    have co := Bo.cell
    have fo := Bo.free
    have lo_W3 := Bo.lt
    have kaW3 : Acc w W3 := by
      refine Acc.call ?_ hb
      (repeat' (first | (with_reducible first | assumption | exact Acc.refl _ | refine Acc.drew ?_ | refine Acc.drewN ?_ _ | refine Acc.alloc ?_ _ | refine Acc.setCell ?_ ?_ _) | (refine leB ?_; omega)))
    clear hb
    go_wp2_with fail
    refine (gaveT_at Cgm.out Dgm.out (implJPower_T v _ Iv (HL.out _ (by repeat' (first | (with_reducible first | assumption | exact Acc.refl _ | refine Acc.drew ?_ | refine Acc.drewN ?_ _ | refine Acc.alloc ?_ _ | refine Acc.setCell ?_ ?_ _) | (refine leB ?_; omega)))))).mono ?_
    rintro e W4 ⟨rfl, hb⟩
    obtain ⟨Ba, Bv, Bo, Bgn⟩ : Blk W4 (W0.heap.size) [.int .i64 a.1.1, .int .i64 a.1.2.1, .int .i64 a.1.2.2, .int .i64 a.2.1.1, .int .i64 a.2.1.2.1, .int .i64 a.2.1.2.2, .int .i64 a.2.2.1.1, .int .i64 a.2.2.1.2.1, .int .i64 a.2.2.1.2.2, .int .i64 a.2.2.2.1, .int .i64 a.2.2.2.2.1, .int .i64 a.2.2.2.2.2] ∧ Blk W4 (W0.heap.size + 1) [.int .i64 v.1.1, .int .i64 v.1.2.1, .int .i64 v.1.2.2, .int .i64 v.2.1, .int .i64 v.2.2.1, .int .i64 v.2.2.2] ∧ Blk W4 (W1.heap.size) [.int .i64 o.1.1, .int .i64 o.1.2.1, .int .i64 o.1.2.2, .int .i64 o.2.1, .int .i64 o.2.2.1, .int .i64 o.2.2.2] ∧ Blk W4 (W3.heap.size) [.int .i64 gn.1, .int .i64 gn.2.1, .int .i64 gn.2.2] := by
      refine ⟨?_, ?_, ?_, ?_⟩ <;> refine Blk.keep hb ?_ <;> (repeat' (first | (with_reducible first | assumption | refine Blk.drew ?_ | refine Blk.drewN ?_ _ | apply Blk.set | (refine Blk.new ?_; focus (first | rfl | (simp; done))) | refine Blk.alloc ?_ _ | refine Blk.other ?_ ?_ _) | exact eqL rfl | (refine neB ?_; omega)))
    have ca := Ba.cell
    have fa := Ba.free
    have la_W4 := Ba.lt
    have cv := Bv.cell
    have fv := Bv.free
    have lv_W4 := Bv.lt
    have co := Bo.cell
    have fo := Bo.free
    have lo_W4 := Bo.lt
    have cgn := Bgn.cell
    have fgn := Bgn.free
    have lgn_W4 := Bgn.lt
    have kaW4 : Acc w W4 := by
      refine Acc.call ?_ hb
      (repeat' (first | (with_reducible first | assumption | exact Acc.refl _ | refine Acc.drew ?_ | refine Acc.drewN ?_ _ | refine Acc.alloc ?_ _ | refine Acc.setCell ?_ ?_ _) | (refine leB ?_; omega)))
    clear hb
    go_wp2_with fail
    refine (gaveM_at Cgb.out Dgb.out (implMAdj_T a _ Ia (HL.out _ (by repeat' (first | (with_reducible first | assumption | exact Acc.refl _ | refine Acc.drew ?_ | refine Acc.drewN ?_ _ | refine Acc.alloc ?_ _ | refine Acc.setCell ?_ ?_ _) | (refine leB ?_; omega)))))).mono ?_
    rintro e W5 ⟨rfl, hb⟩
    obtain ⟨Ba, Bv, Bo, Bgn, Bgm⟩ : Blk W5 (W0.heap.size) [.int .i64 a.1.1, .int .i64 a.1.2.1, .int .i64 a.1.2.2, .int .i64 a.2.1.1, .int .i64 a.2.1.2.1, .int .i64 a.2.1.2.2, .int .i64 a.2.2.1.1, .int .i64 a.2.2.1.2.1, .int .i64 a.2.2.1.2.2, .int .i64 a.2.2.2.1, .int .i64 a.2.2.2.2.1, .int .i64 a.2.2.2.2.2] ∧ Blk W5 (W0.heap.size + 1) [.int .i64 v.1.1, .int .i64 v.1.2.1, .int .i64 v.1.2.2, .int .i64 v.2.1, .int .i64 v.2.2.1, .int .i64 v.2.2.2] ∧ Blk W5 (W1.heap.size) [.int .i64 o.1.1, .int .i64 o.1.2.1, .int .i64 o.1.2.2, .int .i64 o.2.1, .int .i64 o.2.2.1, .int .i64 o.2.2.2] ∧ Blk W5 (W3.heap.size) [.int .i64 gn.1, .int .i64 gn.2.1, .int .i64 gn.2.2] ∧ Blk W5 (W4.heap.size) [.int .i64 gm.1, .int .i64 gm.2.1, .int .i64 gm.2.2] := by
      refine ⟨?_, ?_, ?_, ?_, ?_⟩ <;> refine Blk.keep hb ?_ <;> (repeat' (first | (with_reducible first | assumption | refine Blk.drew ?_ | refine Blk.drewN ?_ _ | apply Blk.set | (refine Blk.new ?_; focus (first | rfl | (simp; done))) | refine Blk.alloc ?_ _ | refine Blk.other ?_ ?_ _) | exact eqL rfl | (refine neB ?_; omega)))
    have ca := Ba.cell
    have fa := Ba.free
    have la_W5 := Ba.lt
    have cv := Bv.cell
    have fv := Bv.free
    have lv_W5 := Bv.lt
    have co := Bo.cell
    have fo := Bo.free
    have lo_W5 := Bo.lt
    have cgn := Bgn.cell
    have fgn := Bgn.free
    have lgn_W5 := Bgn.lt
    have cgm := Bgm.cell
    have fgm := Bgm.free
    have lgm_W5 := Bgm.lt
    have kaW5 : Acc w W5 := by
      refine Acc.call ?_ hb
      (repeat' (first | (with_reducible first | assumption | exact Acc.refl _ | refine Acc.drew ?_ | refine Acc.drewN ?_ _ | refine Acc.alloc ?_ _ | refine Acc.setCell ?_ ?_ _) | (refine leB ?_; omega)))
    clear hb
    go_wp2_with fail
    refine (gaveJ_at Cgs.out Dgs.out (implMApply_T gb o _ Igb Io (HL.out _ (by repeat' (first | (with_reducible first | assumption | exact Acc.refl _ | refine Acc.drew ?_ | refine Acc.drewN ?_ _ | refine Acc.alloc ?_ _ | refine Acc.setCell ?_ ?_ _) | (refine leB ?_; omega)))))).mono ?_
    rintro e W6 ⟨rfl, hb⟩
    obtain ⟨Ba, Bv, Bo, Bgn, Bgm, Bgb⟩ : Blk W6 (W0.heap.size) [.int .i64 a.1.1, .int .i64 a.1.2.1, .int .i64 a.1.2.2, .int .i64 a.2.1.1, .int .i64 a.2.1.2.1, .int .i64 a.2.1.2.2, .int .i64 a.2.2.1.1, .int .i64 a.2.2.1.2.1, .int .i64 a.2.2.1.2.2, .int .i64 a.2.2.2.1, .int .i64 a.2.2.2.2.1, .int .i64 a.2.2.2.2.2] ∧ Blk W6 (W0.heap.size + 1) [.int .i64 v.1.1, .int .i64 v.1.2.1, .int .i64 v.1.2.2, .int .i64 v.2.1, .int .i64 v.2.2.1, .int .i64 v.2.2.2] ∧ Blk W6 (W1.heap.size) [.int .i64 o.1.1, .int .i64 o.1.2.1, .int .i64 o.1.2.2, .int .i64 o.2.1, .int .i64 o.2.2.1, .int .i64 o.2.2.2] ∧ Blk W6 (W3.heap.size) [.int .i64 gn.1, .int .i64 gn.2.1, .int .i64 gn.2.2] ∧ Blk W6 (W4.heap.size) [.int .i64 gm.1, .int .i64 gm.2.1, .int .i64 gm.2.2] ∧ Blk W6 (W5.heap.size) [.int .i64 gb.1.1, .int .i64 gb.1.2.1, .int .i64 gb.1.2.2, .int .i64 gb.2.1.1, .int .i64 gb.2.1.2.1, .int .i64 gb.2.1.2.2, .int .i64 gb.2.2.1.1, .int .i64 gb.2.2.1.2.1, .int .i64 gb.2.2.1.2.2, .int .i64 gb.2.2.2.1, .int .i64 gb.2.2.2.2.1, .int .i64 gb.2.2.2.2.2] := by
      refine ⟨?_, ?_, ?_, ?_, ?_, ?_⟩ <;> refine Blk.keep hb ?_ <;> (repeat' (first | (with_reducible first | assumption | refine Blk.drew ?_ | refine Blk.drewN ?_ _ | apply Blk.set | (refine Blk.new ?_; focus (first | rfl | (simp; done))) | refine Blk.alloc ?_ _ | refine Blk.other ?_ ?_ _) | exact eqL rfl | (refine neB ?_; omega)))
    have ca := Ba.cell
    have fa := Ba.free
    have la_W6 := Ba.lt
    have cv := Bv.cell
    have fv := Bv.free
    have lv_W6 := Bv.lt
    have co := Bo.cell
    have fo := Bo.free
    have lo_W6 := Bo.lt
    have cgn := Bgn.cell
    have fgn := Bgn.free
    have lgn_W6 := Bgn.lt
    have cgm := Bgm.cell
    have fgm := Bgm.free
    have lgm_W6 := Bgm.lt
    have cgb := Bgb.cell
    have fgb := Bgb.free
    have lgb_W6 := Bgb.lt
    have kaW6 : Acc w W6 := by
      refine Acc.call ?_ hb
      (repeat' (first | (with_reducible first | assumption | exact Acc.refl _ | refine Acc.drew ?_ | refine Acc.drewN ?_ _ | refine Acc.alloc ?_ _ | refine Acc.setCell ?_ ?_ _) | (refine leB ?_; omega)))
    clear hb
    go_wp2_with fail
    refine (gaveT_at Cgx.out Dgx.out (implJInner_T v gs _ Iv Igs (HL.out _ (by repeat' (first | (with_reducible first | assumption | exact Acc.refl _ | refine Acc.drew ?_ | refine Acc.drewN ?_ _ | refine Acc.alloc ?_ _ | refine Acc.setCell ?_ ?_ _) | (refine leB ?_; omega)))))).mono ?_
    rintro e W7 ⟨rfl, hb⟩
    obtain ⟨Ba, Bv, Bo, Bgn, Bgm, Bgb, Bgs⟩ : Blk W7 (W0.heap.size) [.int .i64 a.1.1, .int .i64 a.1.2.1, .int .i64 a.1.2.2, .int .i64 a.2.1.1, .int .i64 a.2.1.2.1, .int .i64 a.2.1.2.2, .int .i64 a.2.2.1.1, .int .i64 a.2.2.1.2.1, .int .i64 a.2.2.1.2.2, .int .i64 a.2.2.2.1, .int .i64 a.2.2.2.2.1, .int .i64 a.2.2.2.2.2] ∧ Blk W7 (W0.heap.size + 1) [.int .i64 v.1.1, .int .i64 v.1.2.1, .int .i64 v.1.2.2, .int .i64 v.2.1, .int .i64 v.2.2.1, .int .i64 v.2.2.2] ∧ Blk W7 (W1.heap.size) [.int .i64 o.1.1, .int .i64 o.1.2.1, .int .i64 o.1.2.2, .int .i64 o.2.1, .int .i64 o.2.2.1, .int .i64 o.2.2.2] ∧ Blk W7 (W3.heap.size) [.int .i64 gn.1, .int .i64 gn.2.1, .int .i64 gn.2.2] ∧ Blk W7 (W4.heap.size) [.int .i64 gm.1, .int .i64 gm.2.1, .int .i64 gm.2.2] ∧ Blk W7 (W5.heap.size) [.int .i64 gb.1.1, .int .i64 gb.1.2.1, .int .i64 gb.1.2.2, .int .i64 gb.2.1.1, .int .i64 gb.2.1.2.1, .int .i64 gb.2.1.2.2, .int .i64 gb.2.2.1.1, .int .i64 gb.2.2.1.2.1, .int .i64 gb.2.2.1.2.2, .int .i64 gb.2.2.2.1, .int .i64 gb.2.2.2.2.1, .int .i64 gb.2.2.2.2.2] ∧ Blk W7 (W6.heap.size) [.int .i64 gs.1.1, .int .i64 gs.1.2.1, .int .i64 gs.1.2.2, .int .i64 gs.2.1, .int .i64 gs.2.2.1, .int .i64 gs.2.2.2] := by
      refine ⟨?_, ?_, ?_, ?_, ?_, ?_, ?_⟩ <;> refine Blk.keep hb ?_ <;> (repeat' (first | (with_reducible first | assumption | refine Blk.drew ?_ | refine Blk.drewN ?_ _ | apply Blk.set | (refine Blk.new ?_; focus (first | rfl | (simp; done))) | refine Blk.alloc ?_ _ | refine Blk.other ?_ ?_ _) | exact eqL rfl | (refine neB ?_; omega)))
    have ca := Ba.cell
    have fa := Ba.free
    have la_W7 := Ba.lt
    have cv := Bv.cell
    have fv := Bv.free
    have lv_W7 := Bv.lt
    have co := Bo.cell
    have fo := Bo.free
    have lo_W7 := Bo.lt
    have cgn := Bgn.cell
    have fgn := Bgn.free
    have lgn_W7 := Bgn.lt
    have cgm := Bgm.cell
    have fgm := Bgm.free
    have lgm_W7 := Bgm.lt
    have cgb := Bgb.cell
    have fgb := Bgb.free
    have lgb_W7 := Bgb.lt
    have cgs := Bgs.cell
    have fgs := Bgs.free
    have lgs_W7 := Bgs.lt
    have kaW7 : Acc w W7 := by
      refine Acc.call ?_ hb
      (repeat' (first | (with_reducible first | assumption | exact Acc.refl _ | refine Acc.drew ?_ | refine Acc.drewN ?_ _ | refine Acc.alloc ?_ _ | refine Acc.setCell ?_ ?_ _) | (refine leB ?_; omega)))
    clear hb
    go_wp2_with fail
    refine (valid_at Dpl.out (implLos_T a _ Ia (HL.out _ (by repeat' (first | (with_reducible first | assumption | exact Acc.refl _ | refine Acc.drew ?_ | refine Acc.drewN ?_ _ | refine Acc.alloc ?_ _ | refine Acc.setCell ?_ ?_ _) | (refine leB ?_; omega)))))).mono ?_
    rintro e W8 ⟨rfl, hb⟩
    obtain ⟨Ba, Bv, Bo, Bgn, Bgm, Bgb, Bgs, Bgx⟩ : Blk W8 (W0.heap.size) [.int .i64 a.1.1, .int .i64 a.1.2.1, .int .i64 a.1.2.2, .int .i64 a.2.1.1, .int .i64 a.2.1.2.1, .int .i64 a.2.1.2.2, .int .i64 a.2.2.1.1, .int .i64 a.2.2.1.2.1, .int .i64 a.2.2.1.2.2, .int .i64 a.2.2.2.1, .int .i64 a.2.2.2.2.1, .int .i64 a.2.2.2.2.2] ∧ Blk W8 (W0.heap.size + 1) [.int .i64 v.1.1, .int .i64 v.1.2.1, .int .i64 v.1.2.2, .int .i64 v.2.1, .int .i64 v.2.2.1, .int .i64 v.2.2.2] ∧ Blk W8 (W1.heap.size) [.int .i64 o.1.1, .int .i64 o.1.2.1, .int .i64 o.1.2.2, .int .i64 o.2.1, .int .i64 o.2.2.1, .int .i64 o.2.2.2] ∧ Blk W8 (W3.heap.size) [.int .i64 gn.1, .int .i64 gn.2.1, .int .i64 gn.2.2] ∧ Blk W8 (W4.heap.size) [.int .i64 gm.1, .int .i64 gm.2.1, .int .i64 gm.2.2] ∧ Blk W8 (W5.heap.size) [.int .i64 gb.1.1, .int .i64 gb.1.2.1, .int .i64 gb.1.2.2, .int .i64 gb.2.1.1, .int .i64 gb.2.1.2.1, .int .i64 gb.2.1.2.2, .int .i64 gb.2.2.1.1, .int .i64 gb.2.2.1.2.1, .int .i64 gb.2.2.1.2.2, .int .i64 gb.2.2.2.1, .int .i64 gb.2.2.2.2.1, .int .i64 gb.2.2.2.2.2] ∧ Blk W8 (W6.heap.size) [.int .i64 gs.1.1, .int .i64 gs.1.2.1, .int .i64 gs.1.2.2, .int .i64 gs.2.1, .int .i64 gs.2.2.1, .int .i64 gs.2.2.2] ∧ Blk W8 (W7.heap.size) [.int .i64 gx.1, .int .i64 gx.2.1, .int .i64 gx.2.2] := by
      refine ⟨?_, ?_, ?_, ?_, ?_, ?_, ?_, ?_⟩ <;> refine Blk.keep hb ?_ <;> (repeat' (first | (with_reducible first | assumption | refine Blk.drew ?_ | refine Blk.drewN ?_ _ | apply Blk.set | (refine Blk.new ?_; focus (first | rfl | (simp; done))) | refine Blk.alloc ?_ _ | refine Blk.other ?_ ?_ _) | exact eqL rfl | (refine neB ?_; omega)))
    have ca := Ba.cell
    have fa := Ba.free
    have la_W8 := Ba.lt
    have cv := Bv.cell
    have fv := Bv.free
    have lv_W8 := Bv.lt
    have co := Bo.cell
    have fo := Bo.free
    have lo_W8 := Bo.lt
    have cgn := Bgn.cell
    have fgn := Bgn.free
    have lgn_W8 := Bgn.lt
    have cgm := Bgm.cell
    have fgm := Bgm.free
    have lgm_W8 := Bgm.lt
    have cgb := Bgb.cell
    have fgb := Bgb.free
    have lgb_W8 := Bgb.lt
    have cgs := Bgs.cell
    have fgs := Bgs.free
    have lgs_W8 := Bgs.lt
    have cgx := Bgx.cell
    have fgx := Bgx.free
    have lgx_W8 := Bgx.lt
    have kaW8 : Acc w W8 := by
      refine Acc.call ?_ hb
      (repeat' (first | (with_reducible first | assumption | exact Acc.refl _ | refine Acc.drew ?_ | refine Acc.drewN ?_ _ | refine Acc.alloc ?_ _ | refine Acc.setCell ?_ ?_ _) | (refine leB ?_; omega)))
    clear hb
    have qgn := eqTSame gn
    cases pn with
    | false =>
      go_wp2_with fail
      all_goals
        go_ret
        refine ⟨by first | rfl | (simp [*]; done) | (simp [go_sem, *]; done), ?_⟩
        show Acc w _
        (repeat' (first | (with_reducible first | assumption | exact Acc.refl _ | refine Acc.drew ?_ | refine Acc.drewN ?_ _ | refine Acc.alloc ?_ _ | refine Acc.setCell ?_ ?_ _) | (refine leB ?_; omega)))
    | true =>
      cases pm with
      | false =>
        cases ps with
        | false =>
          go_wp2_with fail
          all_goals
            go_ret
            refine ⟨by first | rfl | (simp [*]; done) | (simp [go_sem, *]; done), ?_⟩
            show Acc w _
            (repeat' (first | (with_reducible first | assumption | exact Acc.refl _ | refine Acc.drew ?_ | refine Acc.drewN ?_ _ | refine Acc.alloc ?_ _ | refine Acc.setCell ?_ ?_ _) | (refine leB ?_; omega)))
        | true =>
          cases px with
          | false =>
            go_wp2_with fail
            all_goals
              go_ret
              refine ⟨by first | rfl | (simp [*]; done) | (simp [go_sem, *]; done), ?_⟩
              show Acc w _
              (repeat' (first | (with_reducible first | assumption | exact Acc.refl _ | refine Acc.drew ?_ | refine Acc.drewN ?_ _ | refine Acc.alloc ?_ _ | refine Acc.setCell ?_ ?_ _) | (refine leB ?_; omega)))
          | true =>
            obtain rfl : gn = gx := (app_back HO.out (someM Cgb.out Dgb.out) (someJ Cgs.out Dgs.out) (someT Cgx.out Dgx.out) (someT Cgn.out Dgn.out)).symm
            go_wp2_with fail
            all_goals
              go_ret
              refine ⟨by first | rfl | (simp [*]; done) | (simp [go_sem, *]; done), ?_⟩
              show Acc w _
              (repeat' (first | (with_reducible first | assumption | exact Acc.refl _ | refine Acc.drew ?_ | refine Acc.drewN ?_ _ | refine Acc.alloc ?_ _ | refine Acc.setCell ?_ ?_ _) | (refine leB ?_; omega)))
      | true =>
        cases pl with
        | false =>
          cases ps with
          | false =>
            go_wp2_with fail
            all_goals
              go_ret
              refine ⟨by first | rfl | (simp [*]; done) | (simp [go_sem, *]; done), ?_⟩
              show Acc w _
              (repeat' (first | (with_reducible first | assumption | exact Acc.refl _ | refine Acc.drew ?_ | refine Acc.drewN ?_ _ | refine Acc.alloc ?_ _ | refine Acc.setCell ?_ ?_ _) | (refine leB ?_; omega)))
          | true =>
            cases px with
            | false =>
              go_wp2_with fail
              all_goals
                go_ret
                refine ⟨by first | rfl | (simp [*]; done) | (simp [go_sem, *]; done), ?_⟩
                show Acc w _
                (repeat' (first | (with_reducible first | assumption | exact Acc.refl _ | refine Acc.drew ?_ | refine Acc.drewN ?_ _ | refine Acc.alloc ?_ _ | refine Acc.setCell ?_ ?_ _) | (refine leB ?_; omega)))
            | true =>
              obtain rfl : gn = gx := (app_back HO.out (someM Cgb.out Dgb.out) (someJ Cgs.out Dgs.out) (someT Cgx.out Dgx.out) (someT Cgn.out Dgn.out)).symm
              go_wp2_with fail
              all_goals
                go_ret
                refine ⟨by first | rfl | (simp [*]; done) | (simp [go_sem, *]; done), ?_⟩
                show Acc w _
                (repeat' (first | (with_reducible first | assumption | exact Acc.refl _ | refine Acc.drew ?_ | refine Acc.drewN ?_ _ | refine Acc.alloc ?_ _ | refine Acc.setCell ?_ ?_ _) | (refine leB ?_; omega)))
        | true =>
          obtain rfl : gn = gm := los_power Dpl.out HO.out (someT Cgn.out Dgn.out) (someT Cgm.out Dgm.out)
          cases ps with
          | false =>
            go_wp2_with fail
            all_goals
              go_ret
              refine ⟨by first | rfl | (simp [*]; done) | (simp [go_sem, *]; done), ?_⟩
              show Acc w _
              (repeat' (first | (with_reducible first | assumption | exact Acc.refl _ | refine Acc.drew ?_ | refine Acc.drewN ?_ _ | refine Acc.alloc ?_ _ | refine Acc.setCell ?_ ?_ _) | (refine leB ?_; omega)))
          | true =>
            cases px with
            | false =>
              go_wp2_with fail
              all_goals
                go_ret
                refine ⟨by first | rfl | (simp [*]; done) | (simp [go_sem, *]; done), ?_⟩
                show Acc w _
                (repeat' (first | (with_reducible first | assumption | exact Acc.refl _ | refine Acc.drew ?_ | refine Acc.drewN ?_ _ | refine Acc.alloc ?_ _ | refine Acc.setCell ?_ ?_ _) | (refine leB ?_; omega)))
            | true =>
              obtain rfl : gn = gx := (app_back HO.out (someM Cgb.out Dgb.out) (someJ Cgs.out Dgs.out) (someT Cgx.out Dgx.out) (someT Cgn.out Dgn.out)).symm
              go_wp2_with fail
              all_goals
                go_ret
                refine ⟨by first | rfl | (simp [*]; done) | (simp [go_sem, *]; done), ?_⟩
                show Acc w _
                (repeat' (first | (with_reducible first | assumption | exact Acc.refl _ | refine Acc.drew ?_ | refine Acc.drewN ?_ _ | refine Acc.alloc ?_ _ | refine Acc.setCell ?_ ?_ _) | (refine leB ?_; omega)))
end Go.Proofs.YtiibnncanpohjaaGreatDoor
