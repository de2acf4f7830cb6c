/-
  The exact law of FibreMat.
-/
import Derived.Test.YtkiggkmbgkonmaaGreatDoorLawSe1
import Derived.Test.YtkiggkmbgkonmaaGreatDoorLawSe2
import Derived.Test.YtkiggkmbgkonmaaGreatDoorLawMat
import Derived.Test.YtkiggkmbgkonmaaGreatDoorImplG6
import Derived.Test.YtkiggkmbgkonmaaGreatDoorSpecG2
namespace Go.Proofs.YtkiggkmbgkonmaaGreatDoor
open Go.ChangeShapes Go.WideShapes Go.ChangeAt Go.RowKit
set_option linter.unusedVariables false

set_option linter.unusedSimpArgs false
set_option maxRecDepth 100000 in
set_option maxHeartbeats 16000000 in
theorem exactFibreMat (a : Option Addr) (ls : List L4) (cap : Nat) (w : World) (h : Lys w a ls) (hm : ls.length ≤ 9223372036854775807) (hl : Laid w) : Calls Tryz.prog 3 #[.slice a ls.length cap] w (Fine w) := by
  have HI := Lib.hid h.1
  have H := Lib.hid h
  have HLD := Lib.hid fun W (k : Acc w W) => hl.acc k
  clear hl h
  by_cases hn : ls.length ≤ 1048576
  ·
    obtain ⟨r1, r2, r3, r4, r5, r6, r7, r8, r9, r10, r11, r12, kr, -, -, hv⟩ := gave12_at (fbM ls)
    have HS := Lib.hid fun a' cap' W (l : Lys W a' ls) => hv _ _ _ W (specFbMat_any a' ls cap' W l hn)
    have HP := Lib.hid fun a' cap' W (l : Lys W a' ls) (k : Acc w W) => hv _ _ _ W (implFbMat_any a' ls cap' W l hn (HLD.out W k))
    clear hv
    go_enter Tryz.func3, Tryz.ntmps3
    go_wp2_with fail
    refine (szSectionS_yes a ls.length cap 1048576 (by omega) (by omega) _).mono ?_
    rintro e W1 ⟨rfl, hb⟩
    have kaW1 : Acc w W1 := by
      refine Acc.call ?_ hb
      (repeat' (first | (with_reducible first | assumption | exact Acc.refl _ | refine Acc.drew ?_ | refine Acc.drewN ?_ _ | refine Acc.alloc ?_ _ | refine Acc.setCell ?_ ?_ _) | (refine leB ?_; omega)))
    clear hb
    have hp : ¬ (1048576 - (ls.length : Int)) < 0 := by omega
    go_wp2_with fail
    refine (toSectionS_any _ ls _ _ (H.out.keep (show Acc w _ by repeat' (first | (with_reducible first | assumption | exact Acc.refl _ | refine Acc.drew ?_ | refine Acc.drewN ?_ _ | refine Acc.alloc ?_ _ | refine Acc.setCell ?_ ?_ _) | (refine leB ?_; omega)))) hn).mono ?_
    rintro e W2 ⟨ga, hga, rfl, Bax, hb⟩
    have kaW2 : Acc w W2 := by
      refine Acc.call ?_ hb
      (repeat' (first | (with_reducible first | assumption | exact Acc.refl _ | refine Acc.drew ?_ | refine Acc.drewN ?_ _ | refine Acc.alloc ?_ _ | refine Acc.setCell ?_ ?_ _) | (refine leB ?_; omega)))
    clear hb
    have La : Lys W2 (some ⟨ga, 0, none⟩) ls := lys_of_blk HI.out Bax.blk
    go_wp2_with fail
    refine (HS.out _ _ _ La).mono ?_
    rintro e W3 ⟨rfl, hb⟩
    have kaW3 : Acc w W3 := by
      refine Acc.call ?_ hb
      (repeat' (first | (with_reducible first | assumption | exact Acc.refl _ | refine Acc.drew ?_ | refine Acc.drewN ?_ _ | refine Acc.alloc ?_ _ | refine Acc.setCell ?_ ?_ _) | (refine leB ?_; omega)))
    clear hb
    go_wp2_with fail
    refine (toSectionS_any _ ls _ _ (H.out.keep (show Acc w _ by repeat' (first | (with_reducible first | assumption | exact Acc.refl _ | refine Acc.drew ?_ | refine Acc.drewN ?_ _ | refine Acc.alloc ?_ _ | refine Acc.setCell ?_ ?_ _) | (refine leB ?_; omega)))) hn).mono ?_
    rintro e W4 ⟨gb, hgb, rfl, Bbx, hb⟩
    have Bp : Blk W4 (W3.heap.size) [.int .i64 r1, .int .i64 r2, .int .i64 r3, .int .i64 r4, .int .i64 r5, .int .i64 r6, .int .i64 r7, .int .i64 r8, .int .i64 r9, .int .i64 r10, .int .i64 r11, .int .i64 r12] := Blk.keep hb (by repeat' (first | (with_reducible first | assumption | refine Blk.drew ?_ | refine Blk.drewN ?_ _ | apply Blk.set | (refine Blk.new ?_; focus (first | rfl | (simp; done))) | refine Blk.alloc ?_ _ | refine Blk.other ?_ ?_ _) | exact eqL rfl | (refine neB ?_; omega)))
    have cp := Bp.cell
    have fp := Bp.free
    have lp_W4 := Bp.lt
    have kaW4 : Acc w W4 := by
      refine Acc.call ?_ hb
      (repeat' (first | (with_reducible first | assumption | exact Acc.refl _ | refine Acc.drew ?_ | refine Acc.drewN ?_ _ | refine Acc.alloc ?_ _ | refine Acc.setCell ?_ ?_ _) | (refine leB ?_; omega)))
    clear hb
    have Lb : Lys W4 (some ⟨gb, 0, none⟩) ls := lys_of_blk HI.out Bbx.blk
    have LAW4 : Lys W4 a ls := H.out.keep kaW4
    have kaB := kaW4
    clear kaW4
    have kaW4 : Acc W4 W4 := Acc.refl _
    go_wp2_with fail
    refine (HP.out _ _ _ (Lb.keep (show Acc W4 _ by repeat' (first | (with_reducible first | assumption | exact Acc.refl _ | refine Acc.drew ?_ | refine Acc.drewN ?_ _ | refine Acc.alloc ?_ _ | refine Acc.setCell ?_ ?_ _) | (refine leB ?_; omega)))) (Acc.call kaB (show Acc W4 _ by repeat' (first | (with_reducible first | assumption | exact Acc.refl _ | refine Acc.drew ?_ | refine Acc.drewN ?_ _ | refine Acc.alloc ?_ _ | refine Acc.setCell ?_ ?_ _) | (refine leB ?_; omega))))).mono ?_
    rintro e W5 ⟨rfl, hb⟩
    have Bp : Blk W5 (W3.heap.size) [.int .i64 r1, .int .i64 r2, .int .i64 r3, .int .i64 r4, .int .i64 r5, .int .i64 r6, .int .i64 r7, .int .i64 r8, .int .i64 r9, .int .i64 r10, .int .i64 r11, .int .i64 r12] := Blk.keep hb (by repeat' (first | (with_reducible first | assumption | refine Blk.drew ?_ | refine Blk.drewN ?_ _ | apply Blk.set | (refine Blk.new ?_; focus (first | rfl | (simp; done))) | refine Blk.alloc ?_ _ | refine Blk.other ?_ ?_ _) | exact eqL rfl | (refine neB ?_; omega)))
    have cp := Bp.cell
    have fp := Bp.free
    have lp_W5 := Bp.lt
    have kaW5 : Acc W4 W5 := by
      refine Acc.call ?_ hb
      (repeat' (first | (with_reducible first | assumption | exact Acc.refl _ | refine Acc.drew ?_ | refine Acc.drewN ?_ _ | refine Acc.alloc ?_ _ | refine Acc.setCell ?_ ?_ _) | (refine leB ?_; omega)))
    clear hb
    go_wp2_with fail
    refine (eqMatL_any r1 r2 r3 r4 r5 r6 r7 r8 r9 r10 r11 r12 _).mono ?_
    rintro e W6 ⟨rfl, hb⟩
    obtain ⟨Bp, Bq⟩ : Blk W6 (W3.heap.size) [.int .i64 r1, .int .i64 r2, .int .i64 r3, .int .i64 r4, .int .i64 r5, .int .i64 r6, .int .i64 r7, .int .i64 r8, .int .i64 r9, .int .i64 r10, .int .i64 r11, .int .i64 r12] ∧ Blk W6 (W5.heap.size) [.int .i64 r1, .int .i64 r2, .int .i64 r3, .int .i64 r4, .int .i64 r5, .int .i64 r6, .int .i64 r7, .int .i64 r8, .int .i64 r9, .int .i64 r10, .int .i64 r11, .int .i64 r12] := by
      refine ⟨?_, ?_⟩ <;> refine Blk.keep hb ?_ <;> (repeat' (first | (with_reducible first | assumption | refine Blk.drew ?_ | refine Blk.drewN ?_ _ | apply Blk.set | (refine Blk.new ?_; focus (first | rfl | (simp; done))) | refine Blk.alloc ?_ _ | refine Blk.other ?_ ?_ _) | exact eqL rfl | (refine neB ?_; omega)))
    have cp := Bp.cell
    have fp := Bp.free
    have lp_W6 := Bp.lt
    have cq := Bq.cell
    have fq := Bq.free
    have lq_W6 := Bq.lt
    have kaW6 : Acc W4 W6 := by
      refine Acc.call ?_ hb
      (repeat' (first | (with_reducible first | assumption | exact Acc.refl _ | refine Acc.drew ?_ | refine Acc.drewN ?_ _ | refine Acc.alloc ?_ _ | refine Acc.setCell ?_ ?_ _) | (refine leB ?_; omega)))
    clear hb
    go_wp2_with fail
    refine (toSectionS_any _ ls _ _ (LAW4.keep (show Acc W4 _ by repeat' (first | (with_reducible first | assumption | exact Acc.refl _ | refine Acc.drew ?_ | refine Acc.drewN ?_ _ | refine Acc.alloc ?_ _ | refine Acc.setCell ?_ ?_ _) | (refine leB ?_; omega)))) hn).mono ?_
    rintro e W7 ⟨gc, hgc, rfl, Bcx, hb⟩
    obtain ⟨Bp, Bq⟩ : Blk W7 (W3.heap.size) [.int .i64 r1, .int .i64 r2, .int .i64 r3, .int .i64 r4, .int .i64 r5, .int .i64 r6, .int .i64 r7, .int .i64 r8, .int .i64 r9, .int .i64 r10, .int .i64 r11, .int .i64 r12] ∧ Blk W7 (W5.heap.size) [.int .i64 r1, .int .i64 r2, .int .i64 r3, .int .i64 r4, .int .i64 r5, .int .i64 r6, .int .i64 r7, .int .i64 r8, .int .i64 r9, .int .i64 r10, .int .i64 r11, .int .i64 r12] := by
      refine ⟨?_, ?_⟩ <;> refine Blk.keep hb ?_ <;> (repeat' (first | (with_reducible first | assumption | refine Blk.drew ?_ | refine Blk.drewN ?_ _ | apply Blk.set | (refine Blk.new ?_; focus (first | rfl | (simp; done))) | refine Blk.alloc ?_ _ | refine Blk.other ?_ ?_ _) | exact eqL rfl | (refine neB ?_; omega)))
    have cp := Bp.cell
    have fp := Bp.free
    have lp_W7 := Bp.lt
    have cq := Bq.cell
    have fq := Bq.free
    have lq_W7 := Bq.lt
    have kaW7 : Acc W4 W7 := by
      refine Acc.call ?_ hb
      (repeat' (first | (with_reducible first | assumption | exact Acc.refl _ | refine Acc.drew ?_ | refine Acc.drewN ?_ _ | refine Acc.alloc ?_ _ | refine Acc.setCell ?_ ?_ _) | (refine leB ?_; omega)))
    clear hb
    have Lc : Lys W7 (some ⟨gc, 0, none⟩) ls := lys_of_blk HI.out Bcx.blk
    go_wp2_with fail
    refine (eqSectionS_any _ _ ls _ _ _ (Lb.keep kaW7) Lc hn).mono ?_
    rintro e W8 ⟨rfl, hb⟩
    obtain ⟨Bp, Bq⟩ : Blk W8 (W3.heap.size) [.int .i64 r1, .int .i64 r2, .int .i64 r3, .int .i64 r4, .int .i64 r5, .int .i64 r6, .int .i64 r7, .int .i64 r8, .int .i64 r9, .int .i64 r10, .int .i64 r11, .int .i64 r12] ∧ Blk W8 (W5.heap.size) [.int .i64 r1, .int .i64 r2, .int .i64 r3, .int .i64 r4, .int .i64 r5, .int .i64 r6, .int .i64 r7, .int .i64 r8, .int .i64 r9, .int .i64 r10, .int .i64 r11, .int .i64 r12] := by
      refine ⟨?_, ?_⟩ <;> refine Blk.keep hb ?_ <;> (repeat' (first | (with_reducible first | assumption | refine Blk.drew ?_ | refine Blk.drewN ?_ _ | apply Blk.set | (refine Blk.new ?_; focus (first | rfl | (simp; done))) | refine Blk.alloc ?_ _ | refine Blk.other ?_ ?_ _) | exact eqL rfl | (refine neB ?_; omega)))
    have cp := Bp.cell
    have fp := Bp.free
    have lp_W8 := Bp.lt
    have cq := Bq.cell
    have fq := Bq.free
    have lq_W8 := Bq.lt
    have kaW8 : Acc W4 W8 := by
      refine Acc.call ?_ hb
      (repeat' (first | (with_reducible first | assumption | exact Acc.refl _ | refine Acc.drew ?_ | refine Acc.drewN ?_ _ | refine Acc.alloc ?_ _ | refine Acc.setCell ?_ ?_ _) | (refine leB ?_; omega)))
    clear hb
    go_wp2_with fail
    go_ret
    refine ⟨rfl, ?_⟩
    show Acc w _
    refine Acc.call kaB (show Acc W4 _ from ?_)
    (repeat' (first | (with_reducible first | assumption | exact Acc.refl _ | refine Acc.drew ?_ | refine Acc.drewN ?_ _ | refine Acc.alloc ?_ _ | refine Acc.setCell ?_ ?_ _) | (refine leB ?_; omega)))
  ·
    go_enter Tryz.func3, Tryz.ntmps3
    go_wp2_with fail
    refine (szSectionS_no a ls.length cap 1048576 (by omega) (by omega) (by omega) _).mono ?_
    rintro e W1 ⟨rfl, hb⟩
    have kaW1 : Acc w W1 := by
      refine Acc.call ?_ hb
      (repeat' (first | (with_reducible first | assumption | exact Acc.refl _ | refine Acc.drew ?_ | refine Acc.drewN ?_ _ | refine Acc.alloc ?_ _ | refine Acc.setCell ?_ ?_ _) | (refine leB ?_; omega)))
    clear hb
    go_wp2_with fail
    go_ret
    refine ⟨rfl, ?_⟩
    show Acc w _
    (repeat' (first | (with_reducible first | assumption | exact Acc.refl _ | refine Acc.drew ?_ | refine Acc.drewN ?_ _ | refine Acc.alloc ?_ _ | refine Acc.setCell ?_ ?_ _) | (refine leB ?_; omega)))
end Go.Proofs.YtkiggkmbgkonmaaGreatDoor
