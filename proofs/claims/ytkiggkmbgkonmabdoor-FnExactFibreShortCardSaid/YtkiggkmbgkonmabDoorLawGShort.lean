/-
  The exact law of FibreShort.
-/
import Derived.Test.YtkiggkmbgkonmabDoorBLawS
import Derived.Test.YtkiggkmbgkonmabDoorLawSe3
import Derived.Test.YtkiggkmbgkonmabDoorImplG18
import Derived.Test.YtkiggkmbgkonmabDoorSpecG8
namespace Go.Proofs.YtkiggkmbgkonmabDoor
open Go.ChangeShapes Go.WideShapes Go.ChangeAt Go.RowKit
set_option linter.unusedVariables false

set_option linter.unusedSimpArgs false
theorem Wr.lys' {g n cap : Nat} {w : World} {a : Option Addr} {ls : List L4} (h : Wr g w (.slice a n cap) ls) : Lys w a ls := by
  obtain ⟨a', cap', e, h⟩ := h.lys
  injection e with e1 e2 e3
  subst e1
  exact h
theorem Wr.open {g : Nat} {w : World} {v : Value} {ls : List L4} (h : Wr g w v ls) : ∃ a cap, v = .slice a ls.length cap := by
  obtain ⟨a, cap, e, -⟩ := h
  exact ⟨a, cap, e⟩
set_option maxRecDepth 100000 in
set_option maxHeartbeats 32000000 in
theorem exactFibreShort (a : Option Addr) (ls : List L4) (cap : Nat) (w : World) (h : Lys w a ls) (hm : ls.length ≤ 9223372036854775807) (hl : Laid w) : Calls Tryd.prog 5 #[.slice a ls.length cap] w (Fine w) := by
  have HI := Lib.hid h.1
  have H := Lib.hid h
  have HLD := Lib.hid fun W (k : Acc w W) => hl.acc k
  clear hl h
  by_cases hn : ls.length ≤ 1048576
  · obtain ⟨RS, hRS⟩ : ∃ RS, (if okFb ls = true then (shoE ls).reverse else []) = RS := ⟨_, rfl⟩
    have hRL : RS.length ≤ 8 := by
      rw [← hRS]
      split
      · rename_i ok
        rw [List.length_reverse]; exact Nat.le_trans (shoE_ok (fun s hs => okFb_mem ok hs)).2 (okFb_all ok).2
      · exact Nat.zero_le _
    have HS := Lib.hid fun a' cap' W (l : Lys W a' ls) => specFbShort_any a' ls cap' W l hn
    have HP := Lib.hid fun a' cap' W (l : Lys W a' ls) (k : Acc w W) => implFbShort_any a' ls cap' W l hn (HLD.out W k)
    obtain ⟨kr, hkr⟩ : ∃ k, okFb ls = k := ⟨_, rfl⟩
    rw [hRS, hkr] at HS HP
    clear hRS hkr HLD
    go_enter Tryd.func5, Tryd.ntmps5
    go_wp2_with fail
    refine (szSectionS_yes a ls.length cap 1048576 (by omega) (by omega) _).mono ?_
    rintro e W1 ⟨rfl, hb⟩
    have kaW1 : Acc w W1 := by
      refine Acc.call ?_ hb
      (repeat' (first | (with_reducible first | assumption | exact Acc.refl _ | refine Acc.drew ?_ | refine Acc.drewN ?_ _ | refine Acc.alloc ?_ _ | refine Acc.setCell ?_ ?_ _) | (refine leB ?_; omega)))
    clear hb
    have ksW1 : w.heap.size ≤ W1.heap.size := kaW1.size
    have hp : ¬ (1048576 - (ls.length : Int)) < 0 := by omega
    go_wp2_with fail
    refine (toSectionS_any _ ls _ _ (H.out.keep (show Acc w _ by repeat' (first | (with_reducible first | assumption | exact Acc.refl _ | refine Acc.drew ?_ | refine Acc.drewN ?_ _ | refine Acc.alloc ?_ _ | refine Acc.setCell ?_ ?_ _) | (refine leB ?_; omega)))) hn).mono ?_
    rintro e W2 ⟨ga, hga, rfl, Bat, hb⟩
    have lsW2 := hb.size
    have lta := Bat.blk.lt
    have kaW2 : Acc w W2 := by
      refine Acc.call ?_ hb
      (repeat' (first | (with_reducible first | assumption | exact Acc.refl _ | refine Acc.drew ?_ | refine Acc.drewN ?_ _ | refine Acc.alloc ?_ _ | refine Acc.setCell ?_ ?_ _) | (refine leB ?_; omega)))
    clear hb
    have ksW2 : w.heap.size ≤ W2.heap.size := kaW2.size
    have Ra : RowKit.Hid (Wr ga W2 (.slice (some ⟨ga, 0, none⟩) ls.length ls.length) ls) := Lib.hid (Wr.of_blk HI.out Bat)
    clear Bat
    go_wp2_with fail
    refine (HS.out _ _ _ Ra.out.lys').mono ?_
    rintro e W3 ⟨v0, c0, rfl, hc1, hc2, hw, hb⟩
    have lsA := hb.size
    obtain ⟨a0, cap0, rfl⟩ := hw.open
    have kaW3 : Acc w W3 := by
      refine Acc.call ?_ hb
      (repeat' (first | (with_reducible first | assumption | exact Acc.refl _ | refine Acc.drew ?_ | refine Acc.drewN ?_ _ | refine Acc.alloc ?_ _ | refine Acc.setCell ?_ ?_ _) | (refine leB ?_; omega)))
    clear hb
    have ksW3 : w.heap.size ≤ W3.heap.size := kaW3.size
    have Rm := Lib.hid hw
    clear hw Ra
    go_wp2_with fail
    refine (toSectionS_any _ ls _ _ (H.out.keep (show Acc w _ by repeat' (first | (with_reducible first | assumption | exact Acc.refl _ | refine Acc.drew ?_ | refine Acc.drewN ?_ _ | refine Acc.alloc ?_ _ | refine Acc.setCell ?_ ?_ _) | (refine leB ?_; omega)))) hn).mono ?_
    rintro e W4 ⟨gx, hgx, rfl, Bxt, hb⟩
    have lsW4 := hb.size
    have ltx := Bxt.blk.lt
    have Rm : RowKit.Hid (Wr c0 W4 (.slice a0 RS.length cap0) RS) := Lib.hid (Wr.keep Rm.out hb)
    have kaW4 : Acc w W4 := by
      refine Acc.call ?_ hb
      (repeat' (first | (with_reducible first | assumption | exact Acc.refl _ | refine Acc.drew ?_ | refine Acc.drewN ?_ _ | refine Acc.alloc ?_ _ | refine Acc.setCell ?_ ?_ _) | (refine leB ?_; omega)))
    clear hb
    have ksW4 : w.heap.size ≤ W4.heap.size := kaW4.size
    have Rx : RowKit.Hid (Wr gx W4 (.slice (some ⟨gx, 0, none⟩) ls.length ls.length) ls) := Lib.hid (Wr.of_blk HI.out Bxt)
    clear Bxt
    go_wp2_with fail
    refine (HP.out _ _ _ Rx.out.lys' (show Acc w _ by repeat' (first | (with_reducible first | assumption | exact Acc.refl _ | refine Acc.drew ?_ | refine Acc.drewN ?_ _ | refine Acc.alloc ?_ _ | refine Acc.setCell ?_ ?_ _) | (refine leB ?_; omega)))).mono ?_
    rintro e W5 ⟨vp, gp, rfl, hgp, hw, hb⟩
    have lsW5p := hb.size
    obtain ⟨ap, capp, rfl⟩ := hw.open
    have Rm : RowKit.Hid (Wr c0 W5 (.slice a0 RS.length cap0) RS) := Lib.hid (Wr.keep Rm.out hb)
    have Rx : RowKit.Hid (Wr gx W5 (.slice (some ⟨gx, 0, none⟩) ls.length ls.length) ls) := Lib.hid (Wr.keep Rx.out hb)
    have kaW5 : Acc w W5 := by
      refine Acc.call ?_ hb
      (repeat' (first | (with_reducible first | assumption | exact Acc.refl _ | refine Acc.drew ?_ | refine Acc.drewN ?_ _ | refine Acc.alloc ?_ _ | refine Acc.setCell ?_ ?_ _) | (refine leB ?_; omega)))
    clear hb
    have ksW5 : w.heap.size ≤ W5.heap.size := kaW5.size
    have Rp := Lib.hid hw
    clear hw
    go_wp2_with fail
    have L1 := Rp.out.lys'
    have L2 := Rm.out.lys'
    refine (eqSectionS_any _ _ RS _ _ _ L1 L2 (by omega)).mono ?_
    rintro e W6 ⟨rfl, hb⟩
    clear L1 L2
    have Rm : RowKit.Hid (Wr c0 W6 (.slice a0 RS.length cap0) RS) := Lib.hid (Wr.keep Rm.out hb)
    have Rx : RowKit.Hid (Wr gx W6 (.slice (some ⟨gx, 0, none⟩) ls.length ls.length) ls) := Lib.hid (Wr.keep Rx.out hb)
    have Rp : RowKit.Hid (Wr gp W6 (.slice ap RS.length capp) RS) := Lib.hid (Wr.keep Rp.out hb)
    have kaW6 : Acc w W6 := by
      refine Acc.call ?_ hb
      (repeat' (first | (with_reducible first | assumption | exact Acc.refl _ | refine Acc.drew ?_ | refine Acc.drewN ?_ _ | refine Acc.alloc ?_ _ | refine Acc.setCell ?_ ?_ _) | (refine leB ?_; omega)))
    clear hb
    have ksW6 : w.heap.size ≤ W6.heap.size := kaW6.size
    go_wp2_with fail
    refine (toSectionS_any _ ls _ _ (H.out.keep (show Acc w _ by repeat' (first | (with_reducible first | assumption | exact Acc.refl _ | refine Acc.drew ?_ | refine Acc.drewN ?_ _ | refine Acc.alloc ?_ _ | refine Acc.setCell ?_ ?_ _) | (refine leB ?_; omega)))) hn).mono ?_
    rintro e W7 ⟨gc, hgc, rfl, Bct, hb⟩
    have lsW7 := hb.size
    have ltc := Bct.blk.lt
    have Rm : RowKit.Hid (Wr c0 W7 (.slice a0 RS.length cap0) RS) := Lib.hid (Wr.keep Rm.out hb)
    have Rx : RowKit.Hid (Wr gx W7 (.slice (some ⟨gx, 0, none⟩) ls.length ls.length) ls) := Lib.hid (Wr.keep Rx.out hb)
    have Rp : RowKit.Hid (Wr gp W7 (.slice ap RS.length capp) RS) := Lib.hid (Wr.keep Rp.out hb)
    have kaW7 : Acc w W7 := by
      refine Acc.call ?_ hb
      (repeat' (first | (with_reducible first | assumption | exact Acc.refl _ | refine Acc.drew ?_ | refine Acc.drewN ?_ _ | refine Acc.alloc ?_ _ | refine Acc.setCell ?_ ?_ _) | (refine leB ?_; omega)))
    clear hb
    have ksW7 : w.heap.size ≤ W7.heap.size := kaW7.size
    have Rc : RowKit.Hid (Wr gc W7 (.slice (some ⟨gc, 0, none⟩) ls.length ls.length) ls) := Lib.hid (Wr.of_blk HI.out Bct)
    clear Bct
    go_wp2_with fail
    have L1 := Rx.out.lys'
    have L2 := Rc.out.lys'
    refine (eqSectionS_any _ _ ls _ _ _ L1 L2 hn).mono ?_
    rintro e W8 ⟨rfl, hb⟩
    clear L1 L2
    have Rm : RowKit.Hid (Wr c0 W8 (.slice a0 RS.length cap0) RS) := Lib.hid (Wr.keep Rm.out hb)
    have Rx : RowKit.Hid (Wr gx W8 (.slice (some ⟨gx, 0, none⟩) ls.length ls.length) ls) := Lib.hid (Wr.keep Rx.out hb)
    have Rp : RowKit.Hid (Wr gp W8 (.slice ap RS.length capp) RS) := Lib.hid (Wr.keep Rp.out hb)
    have Rc : RowKit.Hid (Wr gc W8 (.slice (some ⟨gc, 0, none⟩) ls.length ls.length) ls) := Lib.hid (Wr.keep Rc.out hb)
    have kaW8 : Acc w W8 := by
      refine Acc.call ?_ hb
      (repeat' (first | (with_reducible first | assumption | exact Acc.refl _ | refine Acc.drew ?_ | refine Acc.drewN ?_ _ | refine Acc.alloc ?_ _ | refine Acc.setCell ?_ ?_ _) | (refine leB ?_; omega)))
    clear hb
    have ksW8 : w.heap.size ≤ W8.heap.size := kaW8.size
    go_wp2_with fail
    clear Rc
    have hk : ¬ (1 + 4 * (ls.length : Int)) < 0 := by omega
    have hk2 : ¬ (1 + 4 * (RS.length : Int)) < 0 := by omega
    refine (markS_any gx _ ls 1 _ Rx.out (by decide) (by omega)).mono ?_
    rintro e W9 ⟨rfl, ho, hw⟩
    have Rm : RowKit.Hid (Wr c0 W9 (.slice a0 RS.length cap0) RS) := Lib.hid (Wr.only Rm.out ho (by omega))
    have Rp : RowKit.Hid (Wr gp W9 (.slice ap RS.length capp) RS) := Lib.hid (Wr.only Rp.out ho (by omega))
    have Rx : RowKit.Hid (Wr gx W9 (.slice (some ⟨gx, 0, none⟩) ls.length ls.length) (mkL 1 ls.length)) := Lib.hid hw
    have kaW9 : Acc w W9 := Acc.only (show Acc w _ by repeat' (first | (with_reducible first | assumption | exact Acc.refl _ | refine Acc.drew ?_ | refine Acc.drewN ?_ _ | refine Acc.alloc ?_ _ | refine Acc.setCell ?_ ?_ _) | (refine leB ?_; omega))) (leB (by omega)) ho
    clear ho hw
    go_wp2_with fail
    have L1 := Rp.out.lys'
    have L2 := Rm.out.lys'
    refine (eqSectionS_any _ _ RS _ _ _ L1 L2 (by omega)).mono ?_
    rintro e W10 ⟨rfl, hb⟩
    clear L1 L2
    have Rm : RowKit.Hid (Wr c0 W10 (.slice a0 RS.length cap0) RS) := Lib.hid (Wr.keep Rm.out hb)
    have Rx : RowKit.Hid (Wr gx W10 (.slice (some ⟨gx, 0, none⟩) ls.length ls.length) (mkL 1 ls.length)) := Lib.hid (Wr.keep Rx.out hb)
    have Rp : RowKit.Hid (Wr gp W10 (.slice ap RS.length capp) RS) := Lib.hid (Wr.keep Rp.out hb)
    have kaW10 : Acc w W10 := by
      refine Acc.call ?_ hb
      (repeat' (first | (with_reducible first | assumption | exact Acc.refl _ | refine Acc.drew ?_ | refine Acc.drewN ?_ _ | refine Acc.alloc ?_ _ | refine Acc.setCell ?_ ?_ _) | (refine leB ?_; omega)))
    clear hb
    have ksW10 : w.heap.size ≤ W10.heap.size := kaW10.size
    go_wp2_with fail
    refine (markS_any gp _ RS 1 _ Rp.out (by decide) (by omega)).mono ?_
    rintro e W11 ⟨rfl, ho, hw⟩
    have Rm : RowKit.Hid (Wr c0 W11 (.slice a0 RS.length cap0) RS) := Lib.hid (Wr.only Rm.out ho (by omega))
    have Rx : RowKit.Hid (Wr gx W11 (.slice (some ⟨gx, 0, none⟩) ls.length ls.length) (mkL 1 ls.length)) := Lib.hid (Wr.only Rx.out ho (by omega))
    have Rp : RowKit.Hid (Wr gp W11 (.slice ap RS.length capp) (mkL 1 RS.length)) := Lib.hid hw
    have kaW11 : Acc w W11 := Acc.only (show Acc w _ by repeat' (first | (with_reducible first | assumption | exact Acc.refl _ | refine Acc.drew ?_ | refine Acc.drewN ?_ _ | refine Acc.alloc ?_ _ | refine Acc.setCell ?_ ?_ _) | (refine leB ?_; omega))) (leB (by omega)) ho
    clear ho hw
    go_wp2_with fail
    have L1 := Rp.out.lys'
    refine (heldS_any _ RS.length _ 1 _ L1 (by decide) (by omega)).mono ?_
    rintro e W12 ⟨rfl, hb⟩
    clear L1
    have Rm : RowKit.Hid (Wr c0 W12 (.slice a0 RS.length cap0) RS) := Lib.hid (Wr.keep Rm.out hb)
    have Rx : RowKit.Hid (Wr gx W12 (.slice (some ⟨gx, 0, none⟩) ls.length ls.length) (mkL 1 ls.length)) := Lib.hid (Wr.keep Rx.out hb)
    have Rp : RowKit.Hid (Wr gp W12 (.slice ap RS.length capp) (mkL 1 RS.length)) := Lib.hid (Wr.keep Rp.out hb)
    have kaW12 : Acc w W12 := by
      refine Acc.call ?_ hb
      (repeat' (first | (with_reducible first | assumption | exact Acc.refl _ | refine Acc.drew ?_ | refine Acc.drewN ?_ _ | refine Acc.alloc ?_ _ | refine Acc.setCell ?_ ?_ _) | (refine leB ?_; omega)))
    clear hb
    have ksW12 : w.heap.size ≤ W12.heap.size := kaW12.size
    go_wp2_with fail
    refine (toSectionS_any _ ls _ _ (H.out.keep (show Acc w _ by repeat' (first | (with_reducible first | assumption | exact Acc.refl _ | refine Acc.drew ?_ | refine Acc.drewN ?_ _ | refine Acc.alloc ?_ _ | refine Acc.setCell ?_ ?_ _) | (refine leB ?_; omega)))) hn).mono ?_
    rintro e W13 ⟨gd, hgd, rfl, Bdt, hb⟩
    have lsW13 := hb.size
    have ltd := Bdt.blk.lt
    have Rm : RowKit.Hid (Wr c0 W13 (.slice a0 RS.length cap0) RS) := Lib.hid (Wr.keep Rm.out hb)
    have Rx : RowKit.Hid (Wr gx W13 (.slice (some ⟨gx, 0, none⟩) ls.length ls.length) (mkL 1 ls.length)) := Lib.hid (Wr.keep Rx.out hb)
    have Rp : RowKit.Hid (Wr gp W13 (.slice ap RS.length capp) (mkL 1 RS.length)) := Lib.hid (Wr.keep Rp.out hb)
    have kaW13 : Acc w W13 := by
      refine Acc.call ?_ hb
      (repeat' (first | (with_reducible first | assumption | exact Acc.refl _ | refine Acc.drew ?_ | refine Acc.drewN ?_ _ | refine Acc.alloc ?_ _ | refine Acc.setCell ?_ ?_ _) | (refine leB ?_; omega)))
    clear hb
    have ksW13 : w.heap.size ≤ W13.heap.size := kaW13.size
    have Rd : RowKit.Hid (Wr gd W13 (.slice (some ⟨gd, 0, none⟩) ls.length ls.length) ls) := Lib.hid (Wr.of_blk HI.out Bdt)
    clear Bdt
    go_wp2_with fail
    refine (HP.out _ _ _ Rd.out.lys' (show Acc w _ by repeat' (first | (with_reducible first | assumption | exact Acc.refl _ | refine Acc.drew ?_ | refine Acc.drewN ?_ _ | refine Acc.alloc ?_ _ | refine Acc.setCell ?_ ?_ _) | (refine leB ?_; omega)))).mono ?_
    rintro e W14 ⟨vq, gq, rfl, hgq, hw, hb⟩
    have lsW14p := hb.size
    obtain ⟨aq, capq, rfl⟩ := hw.open
    have Rm : RowKit.Hid (Wr c0 W14 (.slice a0 RS.length cap0) RS) := Lib.hid (Wr.keep Rm.out hb)
    have Rx : RowKit.Hid (Wr gx W14 (.slice (some ⟨gx, 0, none⟩) ls.length ls.length) (mkL 1 ls.length)) := Lib.hid (Wr.keep Rx.out hb)
    have Rp : RowKit.Hid (Wr gp W14 (.slice ap RS.length capp) (mkL 1 RS.length)) := Lib.hid (Wr.keep Rp.out hb)
    have kaW14 : Acc w W14 := by
      refine Acc.call ?_ hb
      (repeat' (first | (with_reducible first | assumption | exact Acc.refl _ | refine Acc.drew ?_ | refine Acc.drewN ?_ _ | refine Acc.alloc ?_ _ | refine Acc.setCell ?_ ?_ _) | (refine leB ?_; omega)))
    clear hb
    have ksW14 : w.heap.size ≤ W14.heap.size := kaW14.size
    have Rq := Lib.hid hw
    clear hw
    go_wp2_with fail
    have L1 := Rq.out.lys'
    have L2 := Rm.out.lys'
    refine (eqSectionS_any _ _ RS _ _ _ L1 L2 (by omega)).mono ?_
    rintro e W15 ⟨rfl, hb⟩
    clear L1 L2
    have Rm : RowKit.Hid (Wr c0 W15 (.slice a0 RS.length cap0) RS) := Lib.hid (Wr.keep Rm.out hb)
    have Rx : RowKit.Hid (Wr gx W15 (.slice (some ⟨gx, 0, none⟩) ls.length ls.length) (mkL 1 ls.length)) := Lib.hid (Wr.keep Rx.out hb)
    have Rp : RowKit.Hid (Wr gp W15 (.slice ap RS.length capp) (mkL 1 RS.length)) := Lib.hid (Wr.keep Rp.out hb)
    have Rq : RowKit.Hid (Wr gq W15 (.slice aq RS.length capq) RS) := Lib.hid (Wr.keep Rq.out hb)
    have kaW15 : Acc w W15 := by
      refine Acc.call ?_ hb
      (repeat' (first | (with_reducible first | assumption | exact Acc.refl _ | refine Acc.drew ?_ | refine Acc.drewN ?_ _ | refine Acc.alloc ?_ _ | refine Acc.setCell ?_ ?_ _) | (refine leB ?_; omega)))
    clear hb
    have ksW15 : w.heap.size ≤ W15.heap.size := kaW15.size
    go_wp2_with fail
    have L1 := Rp.out.lys'
    refine (heldS_any _ RS.length _ 1 _ L1 (by decide) (by omega)).mono ?_
    rintro e W16 ⟨rfl, hb⟩
    clear L1
    have Rm : RowKit.Hid (Wr c0 W16 (.slice a0 RS.length cap0) RS) := Lib.hid (Wr.keep Rm.out hb)
    have Rx : RowKit.Hid (Wr gx W16 (.slice (some ⟨gx, 0, none⟩) ls.length ls.length) (mkL 1 ls.length)) := Lib.hid (Wr.keep Rx.out hb)
    have Rp : RowKit.Hid (Wr gp W16 (.slice ap RS.length capp) (mkL 1 RS.length)) := Lib.hid (Wr.keep Rp.out hb)
    have Rq : RowKit.Hid (Wr gq W16 (.slice aq RS.length capq) RS) := Lib.hid (Wr.keep Rq.out hb)
    have kaW16 : Acc w W16 := by
      refine Acc.call ?_ hb
      (repeat' (first | (with_reducible first | assumption | exact Acc.refl _ | refine Acc.drew ?_ | refine Acc.drewN ?_ _ | refine Acc.alloc ?_ _ | refine Acc.setCell ?_ ?_ _) | (refine leB ?_; omega)))
    clear hb
    have ksW16 : w.heap.size ≤ W16.heap.size := kaW16.size
    go_wp2_with fail
    go_ret
    refine ⟨rfl, ?_⟩
    show Acc w _
    (repeat' (first | (with_reducible first | assumption | exact Acc.refl _ | refine Acc.drew ?_ | refine Acc.drewN ?_ _ | refine Acc.alloc ?_ _ | refine Acc.setCell ?_ ?_ _) | (refine leB ?_; omega)))
  · skip
    go_enter Tryd.func5, Tryd.ntmps5
    go_wp2_with fail
    refine (szSectionS_no a ls.length cap 1048576 (by omega) (by omega) (by omega) _).mono ?_
    rintro e W1 ⟨rfl, hb⟩
    have kaW1 : Acc w W1 := by
      refine Acc.call ?_ hb
      (repeat' (first | (with_reducible first | assumption | exact Acc.refl _ | refine Acc.drew ?_ | refine Acc.drewN ?_ _ | refine Acc.alloc ?_ _ | refine Acc.setCell ?_ ?_ _) | (refine leB ?_; omega)))
    clear hb
    go_wp2_with fail
    go_ret
    refine ⟨rfl, ?_⟩
    show Acc w _
    (repeat' (first | (with_reducible first | assumption | exact Acc.refl _ | refine Acc.drew ?_ | refine Acc.drewN ?_ _ | refine Acc.alloc ?_ _ | refine Acc.setCell ?_ ?_ _) | (refine leB ?_; omega)))
end Go.Proofs.YtkiggkmbgkonmabDoor
