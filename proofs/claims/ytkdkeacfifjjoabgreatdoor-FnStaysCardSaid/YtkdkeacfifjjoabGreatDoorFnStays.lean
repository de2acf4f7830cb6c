/-
  The law FnStays.
-/
import Derived.Test.YtkdkeacfifjjoabGreatDoorDrawStays
import Derived.Test.YtkdkeacfifjjoabGreatDoorImplG11
import Derived.Test.YtkdkeacfifjjoabGreatDoorImplG9
import Derived.Test.YtkdkeacfifjjoabGreatDoorSpecG3
import Derived.Test.YtkdkeacfifjjoabGreatDoorBSec
import Derived.Test.YtkdkeacfifjjoabGreatDoorMatTI
import Derived.Test.YtkdkeacfifjjoabGreatDoorMatTJ
import Derived.Test.YtkdkeacfifjjoabGreatDoorImplJ3
namespace Go.Proofs.YtkdkeacfifjjoabGreatDoor
open Go.ChangeShapes Go.WideShapes Go.ChangeAt Go.RowKit
set_option linter.unusedVariables false

set_option linter.unusedSimpArgs false
theorem Wr.open {g : Nat} {w : World} {v : Value} {ls : List L4} (h : Wr g w v ls) : ∃ a cap, v = .slice a ls.length cap := by
  obtain ⟨a, cap, e, -⟩ := h
  exact ⟨a, cap, e⟩
set_option maxRecDepth 100000 in
set_option maxHeartbeats 16000000 in
theorem fnStays_law (w : World) (hl : Laid w) (s : Option Addr) (len cap : Nat) (h : Code8 w s len cap) :
    Calls Tryz.prog 4 #[.slice s len cap] w (Fine w) := by
  have hm := h.2.1
  have hl' := h.1
  unfold maxLen at hm
  have HL := Lib.hid fun W (k : Acc w W) => hl.acc k
  clear hl
  by_cases hlen : 1048576 < len
  · clear h
    have hlen' : (1048576 : Int) < (len : Int) := by omega
    go_enter Tryz.func4, Tryz.ntmps4
    go_wp2_with fail
    go_ret
    exact ⟨rfl, Below.refl _ _⟩
  have hlen' : ¬ (1048576 : Int) < (len : Int) := by omega
  go_enter Tryz.func4, Tryz.ntmps4
  go_wp2_with fail
  refine (drawFibreStays_any s len cap w h).mono ?_
  rintro e W0 ⟨a, cap0, ls, v, rfl, hly, hl7, Iv, hb⟩
  have kaW0 : Acc w W0 := hb
  have ksW0 := kaW0.size
  have hn : ls.length ≤ 1048576 := by omega
  have H := Lib.hid fun (W : World) (k : Below W0.heap.size W0 W) => hly.keep k
  clear hb h hly
  have kbW0 : Acc W0 W0 := Acc.refl _
  have HP := Lib.hid fun (W : World) (l : Lys W a ls) (k : Acc w W) => implFbStays_any a ls cap0 v.1.1 v.1.2.1 v.1.2.2 v.2.1 v.2.2.1 v.2.2.2 Iv.1.1 Iv.1.2.1 Iv.1.2.2 Iv.2.1 Iv.2.2.1 Iv.2.2.2 W l hn (HL.out W k)
  have HS := Lib.hid fun (W : World) (l : Lys W a ls) => specFbStays_any a ls cap0 v.1.1 v.1.2.1 v.1.2.2 v.2.1 v.2.2.1 v.2.2.2 W l hn
  cases hv : staM ls v.1.1 v.1.2.1 v.1.2.2 v.2.1 v.2.2.1 v.2.2.2 with
  | false =>
    rw [hv] at HP HS
    clear hv
    go_wp2_with fail
    refine (HP.out _ (H.out _ (show Acc W0 _ by repeat' (first | (with_reducible first | assumption | exact Acc.refl _ | refine Acc.drew ?_ | refine Acc.drewN ?_ _ | refine Acc.alloc ?_ _ | refine Acc.setCell ?_ ?_ _) | (refine leB ?_; omega)))) (show Acc w _ by repeat' (first | (with_reducible first | assumption | exact Acc.refl _ | refine Acc.drew ?_ | refine Acc.drewN ?_ _ | refine Acc.alloc ?_ _ | refine Acc.setCell ?_ ?_ _) | (refine leB ?_; omega)))).mono ?_
    rintro e W1 ⟨rfl, hb⟩
    have Bv : Blk W1 (W0.heap.size) [.int .i64 v.1.1, .int .i64 v.1.2.1, .int .i64 v.1.2.2, .int .i64 v.2.1, .int .i64 v.2.2.1, .int .i64 v.2.2.2] := Blk.keep hb (by repeat' (first | (with_reducible first | assumption | refine Blk.drew ?_ | refine Blk.drewN ?_ _ | apply Blk.set | (refine Blk.new ?_; focus (first | rfl | (simp; done))) | refine Blk.alloc ?_ _ | refine Blk.other ?_ ?_ _) | exact eqL rfl | (refine neB ?_; omega)))
    have cv := Bv.cell
    have fv := Bv.free
    have lv_W1 := Bv.lt
    have kbW1 : Acc W0 W1 := Acc.call (show Acc W0 _ by repeat' (first | (with_reducible first | assumption | exact Acc.refl _ | refine Acc.drew ?_ | refine Acc.drewN ?_ _ | refine Acc.alloc ?_ _ | refine Acc.setCell ?_ ?_ _) | (refine leB ?_; omega))) hb
    have kaW1 : Acc w W1 := by
      refine Acc.call ?_ hb
      (repeat' (first | (with_reducible first | assumption | exact Acc.refl _ | refine Acc.drew ?_ | refine Acc.drewN ?_ _ | refine Acc.alloc ?_ _ | refine Acc.setCell ?_ ?_ _) | (refine leB ?_; omega)))
    clear hb
    have ksW1 : w.heap.size ≤ W1.heap.size := kaW1.size
    have kcW1 : Acc W1 W1 := Acc.refl _
    go_wp2_with fail
    refine (HS.out _ (H.out _ (show Acc W0 _ by repeat' (first | (with_reducible first | assumption | exact Acc.refl _ | refine Acc.drew ?_ | refine Acc.drewN ?_ _ | refine Acc.alloc ?_ _ | refine Acc.setCell ?_ ?_ _) | (refine leB ?_; omega))))).mono ?_
    rintro e W2 ⟨rfl, hb⟩
    have Bv : Blk W2 (W0.heap.size) [.int .i64 v.1.1, .int .i64 v.1.2.1, .int .i64 v.1.2.2, .int .i64 v.2.1, .int .i64 v.2.2.1, .int .i64 v.2.2.2] := Blk.keep hb (by repeat' (first | (with_reducible first | assumption | refine Blk.drew ?_ | refine Blk.drewN ?_ _ | apply Blk.set | (refine Blk.new ?_; focus (first | rfl | (simp; done))) | refine Blk.alloc ?_ _ | refine Blk.other ?_ ?_ _) | exact eqL rfl | (refine neB ?_; omega)))
    have cv := Bv.cell
    have fv := Bv.free
    have lv_W2 := Bv.lt
    have kbW2 : Acc W0 W2 := Acc.call (show Acc W0 _ by repeat' (first | (with_reducible first | assumption | exact Acc.refl _ | refine Acc.drew ?_ | refine Acc.drewN ?_ _ | refine Acc.alloc ?_ _ | refine Acc.setCell ?_ ?_ _) | (refine leB ?_; omega))) hb
    have kaW2 : Acc w W2 := by
      refine Acc.call ?_ hb
      (repeat' (first | (with_reducible first | assumption | exact Acc.refl _ | refine Acc.drew ?_ | refine Acc.drewN ?_ _ | refine Acc.alloc ?_ _ | refine Acc.setCell ?_ ?_ _) | (refine leB ?_; omega)))
    clear hb
    have ksW2 : w.heap.size ≤ W2.heap.size := kaW2.size
    have kcW2 : Acc W2 W2 := Acc.refl _
    go_wp2_with fail
    go_ret
    refine ⟨by first | rfl | (simp [*]; done) | (simp [go_sem, *]; done), ?_⟩
    show Acc w _
    (repeat' (first | (with_reducible first | assumption | exact Acc.refl _ | refine Acc.drew ?_ | refine Acc.drewN ?_ _ | refine Acc.alloc ?_ _ | refine Acc.setCell ?_ ?_ _) | (refine leB ?_; omega)))
  | true =>
    have HO := Lib.hid hv
    rw [hv] at HP HS
    clear hv
    have i1 : i64B 1 := by unfold i64B; omega
    have i0 : i64B 0 := by unfold i64B; omega
    obtain ⟨t, ht, ot, -⟩ := turn_told (sta_ok HO.out)
    have HT := Lib.hid ht
    clear ht
    have It : i64J t := ⟨i64T_ok ot.1, i64T_ok ot.2⟩
    clear ot
    obtain ⟨gw, hx⟩ : ∃ x9, valJ (runM ls t) = x9 := ⟨_, rfl⟩
    obtain ⟨pw, hs⟩ : ∃ s9, (runM ls t).isSome = s9 := ⟨_, rfl⟩
    have Igw := valJ_i64 (fun r h => (runM_some h).2.1) hx
    have Cgw := Lib.hid hx
    have Dgw := Lib.hid hs
    clear hx hs
    obtain ⟨gr, hx⟩ : ∃ x9, valT (tT t.1 gw.2) = x9 := ⟨_, rfl⟩
    obtain ⟨pr, hs⟩ : ∃ s9, (tT t.1 gw.2).isSome = s9 := ⟨_, rfl⟩
    have Igr := valT_i64 (fun r h => (tT_val h).2.2.1) hx
    have Cgr := Lib.hid hx
    have Dgr := Lib.hid hs
    clear hx hs
    obtain ⟨gs, hx⟩ : ∃ x9, valT (tT t.2 gw.1) = x9 := ⟨_, rfl⟩
    obtain ⟨ps, hs⟩ : ∃ s9, (tT t.2 gw.1).isSome = s9 := ⟨_, rfl⟩
    have Igs := valT_i64 (fun r h => (tT_val h).2.2.1) hx
    have Cgs := Lib.hid hx
    have Dgs := Lib.hid hs
    clear hx hs
    go_wp2_with fail
    refine (HP.out _ (H.out _ (show Acc W0 _ by repeat' (first | (with_reducible first | assumption | exact Acc.refl _ | refine Acc.drew ?_ | refine Acc.drewN ?_ _ | refine Acc.alloc ?_ _ | refine Acc.setCell ?_ ?_ _) | (refine leB ?_; omega)))) (show Acc w _ by repeat' (first | (with_reducible first | assumption | exact Acc.refl _ | refine Acc.drew ?_ | refine Acc.drewN ?_ _ | refine Acc.alloc ?_ _ | refine Acc.setCell ?_ ?_ _) | (refine leB ?_; omega)))).mono ?_
    rintro e W1 ⟨rfl, hb⟩
    have Bv : Blk W1 (W0.heap.size) [.int .i64 v.1.1, .int .i64 v.1.2.1, .int .i64 v.1.2.2, .int .i64 v.2.1, .int .i64 v.2.2.1, .int .i64 v.2.2.2] := Blk.keep hb (by repeat' (first | (with_reducible first | assumption | refine Blk.drew ?_ | refine Blk.drewN ?_ _ | apply Blk.set | (refine Blk.new ?_; focus (first | rfl | (simp; done))) | refine Blk.alloc ?_ _ | refine Blk.other ?_ ?_ _) | exact eqL rfl | (refine neB ?_; omega)))
    have cv := Bv.cell
    have fv := Bv.free
    have lv_W1 := Bv.lt
    have kbW1 : Acc W0 W1 := Acc.call (show Acc W0 _ by repeat' (first | (with_reducible first | assumption | exact Acc.refl _ | refine Acc.drew ?_ | refine Acc.drewN ?_ _ | refine Acc.alloc ?_ _ | refine Acc.setCell ?_ ?_ _) | (refine leB ?_; omega))) hb
    have kaW1 : Acc w W1 := by
      refine Acc.call ?_ hb
      (repeat' (first | (with_reducible first | assumption | exact Acc.refl _ | refine Acc.drew ?_ | refine Acc.drewN ?_ _ | refine Acc.alloc ?_ _ | refine Acc.setCell ?_ ?_ _) | (refine leB ?_; omega)))
    clear hb
    have ksW1 : w.heap.size ≤ W1.heap.size := kaW1.size
    have kcW1 : Acc W1 W1 := Acc.refl _
    go_wp2_with fail
    refine (HS.out _ (H.out _ (show Acc W0 _ by repeat' (first | (with_reducible first | assumption | exact Acc.refl _ | refine Acc.drew ?_ | refine Acc.drewN ?_ _ | refine Acc.alloc ?_ _ | refine Acc.setCell ?_ ?_ _) | (refine leB ?_; omega))))).mono ?_
    rintro e W2 ⟨rfl, hb⟩
    have Bv : Blk W2 (W0.heap.size) [.int .i64 v.1.1, .int .i64 v.1.2.1, .int .i64 v.1.2.2, .int .i64 v.2.1, .int .i64 v.2.2.1, .int .i64 v.2.2.2] := Blk.keep hb (by repeat' (first | (with_reducible first | assumption | refine Blk.drew ?_ | refine Blk.drewN ?_ _ | apply Blk.set | (refine Blk.new ?_; focus (first | rfl | (simp; done))) | refine Blk.alloc ?_ _ | refine Blk.other ?_ ?_ _) | exact eqL rfl | (refine neB ?_; omega)))
    have cv := Bv.cell
    have fv := Bv.free
    have lv_W2 := Bv.lt
    have kbW2 : Acc W0 W2 := Acc.call (show Acc W0 _ by repeat' (first | (with_reducible first | assumption | exact Acc.refl _ | refine Acc.drew ?_ | refine Acc.drewN ?_ _ | refine Acc.alloc ?_ _ | refine Acc.setCell ?_ ?_ _) | (refine leB ?_; omega))) hb
    have kaW2 : Acc w W2 := by
      refine Acc.call ?_ hb
      (repeat' (first | (with_reducible first | assumption | exact Acc.refl _ | refine Acc.drew ?_ | refine Acc.drewN ?_ _ | refine Acc.alloc ?_ _ | refine Acc.setCell ?_ ?_ _) | (refine leB ?_; omega)))
    clear hb
    have ksW2 : w.heap.size ≤ W2.heap.size := kaW2.size
    have kcW2 : Acc W2 W2 := Acc.refl _
    go_wp2_with fail
    refine (gaveJ_at (show valJ _ = t from congrArg valJ HT.out) (show Option.isSome _ = true from isS HT.out) (implJTimes_any v.1.1 v.1.2.1 v.1.2.2 v.2.1 v.2.2.1 v.2.2.2 0 1 1 Iv.1.1 Iv.1.2.1 Iv.1.2.2 Iv.2.1 Iv.2.2.1 Iv.2.2.2 i0 i1 i1 _ (HL.out _ (show Acc w _ by repeat' (first | (with_reducible first | assumption | exact Acc.refl _ | refine Acc.drew ?_ | refine Acc.drewN ?_ _ | refine Acc.alloc ?_ _ | refine Acc.setCell ?_ ?_ _) | (refine leB ?_; omega)))))).mono ?_
    rintro e W3 ⟨rfl, hb⟩
    have Bv : Blk W3 (W0.heap.size) [.int .i64 v.1.1, .int .i64 v.1.2.1, .int .i64 v.1.2.2, .int .i64 v.2.1, .int .i64 v.2.2.1, .int .i64 v.2.2.2] := Blk.keep hb (by repeat' (first | (with_reducible first | assumption | refine Blk.drew ?_ | refine Blk.drewN ?_ _ | apply Blk.set | (refine Blk.new ?_; focus (first | rfl | (simp; done))) | refine Blk.alloc ?_ _ | refine Blk.other ?_ ?_ _) | exact eqL rfl | (refine neB ?_; omega)))
    have cv := Bv.cell
    have fv := Bv.free
    have lv_W3 := Bv.lt
    have kbW3 : Acc W0 W3 := Acc.call (show Acc W0 _ by repeat' (first | (with_reducible first | assumption | exact Acc.refl _ | refine Acc.drew ?_ | refine Acc.drewN ?_ _ | refine Acc.alloc ?_ _ | refine Acc.setCell ?_ ?_ _) | (refine leB ?_; omega))) hb
    have kaW3 : Acc w W3 := by
      refine Acc.call ?_ hb
      (repeat' (first | (with_reducible first | assumption | exact Acc.refl _ | refine Acc.drew ?_ | refine Acc.drewN ?_ _ | refine Acc.alloc ?_ _ | refine Acc.setCell ?_ ?_ _) | (refine leB ?_; omega)))
    clear hb
    have ksW3 : w.heap.size ≤ W3.heap.size := kaW3.size
    have kcW3 : Acc W3 W3 := Acc.refl _
    go_wp2_with fail
    refine (gaveJ_at Cgw.out Dgw.out (implFbRun_any a ls cap0 t.1.1 t.1.2.1 t.1.2.2 t.2.1 t.2.2.1 t.2.2.2 It.1.1 It.1.2.1 It.1.2.2 It.2.1 It.2.2.1 It.2.2.2 _ (H.out _ (show Acc W0 _ by repeat' (first | (with_reducible first | assumption | exact Acc.refl _ | refine Acc.drew ?_ | refine Acc.drewN ?_ _ | refine Acc.alloc ?_ _ | refine Acc.setCell ?_ ?_ _) | (refine leB ?_; omega)))) hn (HL.out _ (show Acc w _ by repeat' (first | (with_reducible first | assumption | exact Acc.refl _ | refine Acc.drew ?_ | refine Acc.drewN ?_ _ | refine Acc.alloc ?_ _ | refine Acc.setCell ?_ ?_ _) | (refine leB ?_; omega)))))).mono ?_
    rintro e W4 ⟨rfl, hb⟩
    have Bv : Blk W4 (W0.heap.size) [.int .i64 v.1.1, .int .i64 v.1.2.1, .int .i64 v.1.2.2, .int .i64 v.2.1, .int .i64 v.2.2.1, .int .i64 v.2.2.2] := Blk.keep hb (by repeat' (first | (with_reducible first | assumption | refine Blk.drew ?_ | refine Blk.drewN ?_ _ | apply Blk.set | (refine Blk.new ?_; focus (first | rfl | (simp; done))) | refine Blk.alloc ?_ _ | refine Blk.other ?_ ?_ _) | exact eqL rfl | (refine neB ?_; omega)))
    have Bt : Blk W4 (W3.heap.size) [.int .i64 t.1.1, .int .i64 t.1.2.1, .int .i64 t.1.2.2, .int .i64 t.2.1, .int .i64 t.2.2.1, .int .i64 t.2.2.2] := Blk.keep hb (by repeat' (first | (with_reducible first | assumption | refine Blk.drew ?_ | refine Blk.drewN ?_ _ | apply Blk.set | (refine Blk.new ?_; focus (first | rfl | (simp; done))) | refine Blk.alloc ?_ _ | refine Blk.other ?_ ?_ _) | exact eqL rfl | (refine neB ?_; omega)))
    have cv := Bv.cell
    have fv := Bv.free
    have lv_W4 := Bv.lt
    have ct := Bt.cell
    have ft := Bt.free
    have lt_W4 := Bt.lt
    have kbW4 : Acc W0 W4 := Acc.call (show Acc W0 _ by repeat' (first | (with_reducible first | assumption | exact Acc.refl _ | refine Acc.drew ?_ | refine Acc.drewN ?_ _ | refine Acc.alloc ?_ _ | refine Acc.setCell ?_ ?_ _) | (refine leB ?_; omega))) hb
    have kaW4 : Acc w W4 := by
      refine Acc.call ?_ hb
      (repeat' (first | (with_reducible first | assumption | exact Acc.refl _ | refine Acc.drew ?_ | refine Acc.drewN ?_ _ | refine Acc.alloc ?_ _ | refine Acc.setCell ?_ ?_ _) | (refine leB ?_; omega)))
    clear hb
    have ksW4 : w.heap.size ≤ W4.heap.size := kaW4.size
    have kcW4 : Acc W4 W4 := Acc.refl _
    go_wp2_with fail
    refine (gaveT_at Cgr.out Dgr.out (implTimes_T t.1 gw.2 _ It.1 Igw.2 (HL.out _ (show Acc w _ by repeat' (first | (with_reducible first | assumption | exact Acc.refl _ | refine Acc.drew ?_ | refine Acc.drewN ?_ _ | refine Acc.alloc ?_ _ | refine Acc.setCell ?_ ?_ _) | (refine leB ?_; omega)))))).mono ?_
    rintro e W5 ⟨rfl, hb⟩
    have Bv : Blk W5 (W0.heap.size) [.int .i64 v.1.1, .int .i64 v.1.2.1, .int .i64 v.1.2.2, .int .i64 v.2.1, .int .i64 v.2.2.1, .int .i64 v.2.2.2] := Blk.keep hb (by repeat' (first | (with_reducible first | assumption | refine Blk.drew ?_ | refine Blk.drewN ?_ _ | apply Blk.set | (refine Blk.new ?_; focus (first | rfl | (simp; done))) | refine Blk.alloc ?_ _ | refine Blk.other ?_ ?_ _) | exact eqL rfl | (refine neB ?_; omega)))
    have Bt : Blk W5 (W3.heap.size) [.int .i64 t.1.1, .int .i64 t.1.2.1, .int .i64 t.1.2.2, .int .i64 t.2.1, .int .i64 t.2.2.1, .int .i64 t.2.2.2] := Blk.keep hb (by repeat' (first | (with_reducible first | assumption | refine Blk.drew ?_ | refine Blk.drewN ?_ _ | apply Blk.set | (refine Blk.new ?_; focus (first | rfl | (simp; done))) | refine Blk.alloc ?_ _ | refine Blk.other ?_ ?_ _) | exact eqL rfl | (refine neB ?_; omega)))
    have Bgw : Blk W5 (W4.heap.size) [.int .i64 gw.1.1, .int .i64 gw.1.2.1, .int .i64 gw.1.2.2, .int .i64 gw.2.1, .int .i64 gw.2.2.1, .int .i64 gw.2.2.2] := Blk.keep hb (by repeat' (first | (with_reducible first | assumption | refine Blk.drew ?_ | refine Blk.drewN ?_ _ | apply Blk.set | (refine Blk.new ?_; focus (first | rfl | (simp; done))) | refine Blk.alloc ?_ _ | refine Blk.other ?_ ?_ _) | exact eqL rfl | (refine neB ?_; omega)))
    have cv := Bv.cell
    have fv := Bv.free
    have lv_W5 := Bv.lt
    have ct := Bt.cell
    have ft := Bt.free
    have lt_W5 := Bt.lt
    have cgw := Bgw.cell
    have fgw := Bgw.free
    have lgw_W5 := Bgw.lt
    have kbW5 : Acc W0 W5 := Acc.call (show Acc W0 _ by repeat' (first | (with_reducible first | assumption | exact Acc.refl _ | refine Acc.drew ?_ | refine Acc.drewN ?_ _ | refine Acc.alloc ?_ _ | refine Acc.setCell ?_ ?_ _) | (refine leB ?_; omega))) hb
    have kaW5 : Acc w W5 := by
      refine Acc.call ?_ hb
      (repeat' (first | (with_reducible first | assumption | exact Acc.refl _ | refine Acc.drew ?_ | refine Acc.drewN ?_ _ | refine Acc.alloc ?_ _ | refine Acc.setCell ?_ ?_ _) | (refine leB ?_; omega)))
    clear hb
    have ksW5 : w.heap.size ≤ W5.heap.size := kaW5.size
    have kcW5 : Acc W5 W5 := Acc.refl _
    go_wp2_with fail
    refine (gaveT_at Cgs.out Dgs.out (implTimes_T t.2 gw.1 _ It.2 Igw.1 (HL.out _ (show Acc w _ by repeat' (first | (with_reducible first | assumption | exact Acc.refl _ | refine Acc.drew ?_ | refine Acc.drewN ?_ _ | refine Acc.alloc ?_ _ | refine Acc.setCell ?_ ?_ _) | (refine leB ?_; omega)))))).mono ?_
    rintro e W6 ⟨rfl, hb⟩
    have Bv : Blk W6 (W0.heap.size) [.int .i64 v.1.1, .int .i64 v.1.2.1, .int .i64 v.1.2.2, .int .i64 v.2.1, .int .i64 v.2.2.1, .int .i64 v.2.2.2] := Blk.keep hb (by repeat' (first | (with_reducible first | assumption | refine Blk.drew ?_ | refine Blk.drewN ?_ _ | apply Blk.set | (refine Blk.new ?_; focus (first | rfl | (simp; done))) | refine Blk.alloc ?_ _ | refine Blk.other ?_ ?_ _) | exact eqL rfl | (refine neB ?_; omega)))
    have Bt : Blk W6 (W3.heap.size) [.int .i64 t.1.1, .int .i64 t.1.2.1, .int .i64 t.1.2.2, .int .i64 t.2.1, .int .i64 t.2.2.1, .int .i64 t.2.2.2] := Blk.keep hb (by repeat' (first | (with_reducible first | assumption | refine Blk.drew ?_ | refine Blk.drewN ?_ _ | apply Blk.set | (refine Blk.new ?_; focus (first | rfl | (simp; done))) | refine Blk.alloc ?_ _ | refine Blk.other ?_ ?_ _) | exact eqL rfl | (refine neB ?_; omega)))
    have Bgw : Blk W6 (W4.heap.size) [.int .i64 gw.1.1, .int .i64 gw.1.2.1, .int .i64 gw.1.2.2, .int .i64 gw.2.1, .int .i64 gw.2.2.1, .int .i64 gw.2.2.2] := Blk.keep hb (by repeat' (first | (with_reducible first | assumption | refine Blk.drew ?_ | refine Blk.drewN ?_ _ | apply Blk.set | (refine Blk.new ?_; focus (first | rfl | (simp; done))) | refine Blk.alloc ?_ _ | refine Blk.other ?_ ?_ _) | exact eqL rfl | (refine neB ?_; omega)))
    have cv := Bv.cell
    have fv := Bv.free
    have lv_W6 := Bv.lt
    have ct := Bt.cell
    have ft := Bt.free
    have lt_W6 := Bt.lt
    have cgw := Bgw.cell
    have fgw := Bgw.free
    have lgw_W6 := Bgw.lt
    have kbW6 : Acc W0 W6 := Acc.call (show Acc W0 _ by repeat' (first | (with_reducible first | assumption | exact Acc.refl _ | refine Acc.drew ?_ | refine Acc.drewN ?_ _ | refine Acc.alloc ?_ _ | refine Acc.setCell ?_ ?_ _) | (refine leB ?_; omega))) hb
    have kaW6 : Acc w W6 := by
      refine Acc.call ?_ hb
      (repeat' (first | (with_reducible first | assumption | exact Acc.refl _ | refine Acc.drew ?_ | refine Acc.drewN ?_ _ | refine Acc.alloc ?_ _ | refine Acc.setCell ?_ ?_ _) | (refine leB ?_; omega)))
    clear hb
    have ksW6 : w.heap.size ≤ W6.heap.size := kaW6.size
    have kcW6 : Acc W6 W6 := Acc.refl _
    cases pw with
    | false =>
      go_wp2_with fail
      go_ret
      refine ⟨by first | rfl | (simp [*]; done) | (simp [go_sem, *]; done), ?_⟩
      show Acc w _
      (repeat' (first | (with_reducible first | assumption | exact Acc.refl _ | refine Acc.drew ?_ | refine Acc.drewN ?_ _ | refine Acc.alloc ?_ _ | refine Acc.setCell ?_ ?_ _) | (refine leB ?_; omega)))
    | true =>
      cases pr with
      | false =>
        go_wp2_with fail
        go_ret
        refine ⟨by first | rfl | (simp [*]; done) | (simp [go_sem, *]; done), ?_⟩
        show Acc w _
        (repeat' (first | (with_reducible first | assumption | exact Acc.refl _ | refine Acc.drew ?_ | refine Acc.drewN ?_ _ | refine Acc.alloc ?_ _ | refine Acc.setCell ?_ ?_ _) | (refine leB ?_; omega)))
      | true =>
        cases ps with
        | false =>
          go_wp2_with fail
          go_ret
          refine ⟨by first | rfl | (simp [*]; done) | (simp [go_sem, *]; done), ?_⟩
          show Acc w _
          (repeat' (first | (with_reducible first | assumption | exact Acc.refl _ | refine Acc.drew ?_ | refine Acc.drewN ?_ _ | refine Acc.alloc ?_ _ | refine Acc.setCell ?_ ?_ _) | (refine leB ?_; omega)))
        | true =>
          have HST := Lib.hid (stays_turn HO.out HT.out (someJ Cgw.out Dgw.out) (someT Cgr.out Dgr.out) (someT Cgs.out Dgs.out))
          go_wp2_with fail
          refine (valid_at HST.out (implFbStays_any a ls cap0 t.1.1 t.1.2.1 t.1.2.2 t.2.1 t.2.2.1 t.2.2.2 It.1.1 It.1.2.1 It.1.2.2 It.2.1 It.2.2.1 It.2.2.2 _ (H.out _ (show Acc W0 _ by repeat' (first | (with_reducible first | assumption | exact Acc.refl _ | refine Acc.drew ?_ | refine Acc.drewN ?_ _ | refine Acc.alloc ?_ _ | refine Acc.setCell ?_ ?_ _) | (refine leB ?_; omega)))) hn (HL.out _ (show Acc w _ by repeat' (first | (with_reducible first | assumption | exact Acc.refl _ | refine Acc.drew ?_ | refine Acc.drewN ?_ _ | refine Acc.alloc ?_ _ | refine Acc.setCell ?_ ?_ _) | (refine leB ?_; omega)))))).mono ?_
          rintro e W7 ⟨rfl, hb⟩
          have Bv : Blk W7 (W0.heap.size) [.int .i64 v.1.1, .int .i64 v.1.2.1, .int .i64 v.1.2.2, .int .i64 v.2.1, .int .i64 v.2.2.1, .int .i64 v.2.2.2] := Blk.keep hb (by repeat' (first | (with_reducible first | assumption | refine Blk.drew ?_ | refine Blk.drewN ?_ _ | apply Blk.set | (refine Blk.new ?_; focus (first | rfl | (simp; done))) | refine Blk.alloc ?_ _ | refine Blk.other ?_ ?_ _) | exact eqL rfl | (refine neB ?_; omega)))
          have Bt : Blk W7 (W3.heap.size) [.int .i64 t.1.1, .int .i64 t.1.2.1, .int .i64 t.1.2.2, .int .i64 t.2.1, .int .i64 t.2.2.1, .int .i64 t.2.2.2] := Blk.keep hb (by repeat' (first | (with_reducible first | assumption | refine Blk.drew ?_ | refine Blk.drewN ?_ _ | apply Blk.set | (refine Blk.new ?_; focus (first | rfl | (simp; done))) | refine Blk.alloc ?_ _ | refine Blk.other ?_ ?_ _) | exact eqL rfl | (refine neB ?_; omega)))
          have Bgw : Blk W7 (W4.heap.size) [.int .i64 gw.1.1, .int .i64 gw.1.2.1, .int .i64 gw.1.2.2, .int .i64 gw.2.1, .int .i64 gw.2.2.1, .int .i64 gw.2.2.2] := Blk.keep hb (by repeat' (first | (with_reducible first | assumption | refine Blk.drew ?_ | refine Blk.drewN ?_ _ | apply Blk.set | (refine Blk.new ?_; focus (first | rfl | (simp; done))) | refine Blk.alloc ?_ _ | refine Blk.other ?_ ?_ _) | exact eqL rfl | (refine neB ?_; omega)))
          have cv := Bv.cell
          have fv := Bv.free
          have lv_W7 := Bv.lt
          have ct := Bt.cell
          have ft := Bt.free
          have lt_W7 := Bt.lt
          have cgw := Bgw.cell
          have fgw := Bgw.free
          have lgw_W7 := Bgw.lt
          have kbW7 : Acc W0 W7 := Acc.call (show Acc W0 _ by repeat' (first | (with_reducible first | assumption | exact Acc.refl _ | refine Acc.drew ?_ | refine Acc.drewN ?_ _ | refine Acc.alloc ?_ _ | refine Acc.setCell ?_ ?_ _) | (refine leB ?_; omega))) hb
          have kaW7 : Acc w W7 := by
            refine Acc.call ?_ hb
            (repeat' (first | (with_reducible first | assumption | exact Acc.refl _ | refine Acc.drew ?_ | refine Acc.drewN ?_ _ | refine Acc.alloc ?_ _ | refine Acc.setCell ?_ ?_ _) | (refine leB ?_; omega)))
          clear hb
          have ksW7 : w.heap.size ≤ W7.heap.size := kaW7.size
          have kcW7 : Acc W7 W7 := Acc.refl _
          go_wp2_with fail
          go_ret
          refine ⟨by first | rfl | (simp [*]; done) | (simp [go_sem, *]; done), ?_⟩
          show Acc w _
          (repeat' (first | (with_reducible first | assumption | exact Acc.refl _ | refine Acc.drew ?_ | refine Acc.drewN ?_ _ | refine Acc.alloc ?_ _ | refine Acc.setCell ?_ ?_ _) | (refine leB ?_; omega)))
end Go.Proofs.YtkdkeacfifjjoabGreatDoor
