/-
  The law FnFibreBack.
-/
import Derived.Test.YtkdkeacfifjjoaaDoorBShort
import Derived.Test.YtkdkeacfifjjoaaDoorBFibO
import Derived.Test.YtkdkeacfifjjoaaDoorSpecG7
import Derived.Test.YtkdkeacfifjjoaaDoorBSec
namespace Go.Proofs.YtkdkeacfifjjoaaDoor
open Go.ChangeShapes Go.WideShapes Go.ChangeAt Go.RowKit
set_option linter.unusedVariables false

set_option linter.unusedSimpArgs false
theorem Wr.lys' {g n cap : Nat} {w : World} {a : Option Addr} {ls : List L4} (h : Wr g w (.slice a n cap) ls) : Lys w a ls := by
  obtain ⟨a', cap', e, h⟩ := h.lys
  injection e with e1 e2 e3
  subst e1
  exact h
theorem Wr.open {g : Nat} {w : World} {v : Value} {ls : List L4} (h : Wr g w v ls) : ∃ a cap, v = .slice a ls.length cap := by
  obtain ⟨a, cap, e, -⟩ := h
  exact ⟨a, cap, e⟩
set_option maxRecDepth 100000 in
set_option maxHeartbeats 16000000 in
theorem fnFibreBack_law (w : World) (hl : Laid w) (s : Option Addr) (len cap : Nat) (h : Code8 w s len cap) :
    Calls Tryd.prog 4 #[.slice s len cap] w (Fine w) := by
  have hm := h.2.1
  have hl' := h.1
  unfold maxLen at hm
  have HL := Lib.hid fun W (k : Acc w W) => hl.acc k
  clear hl
  by_cases hlen : 1048576 < len
  · clear h
    have hlen' : (1048576 : Int) < (len : Int) := by omega
    go_enter Tryd.func4, Tryd.ntmps4
    go_wp2_with fail
    go_ret
    exact ⟨rfl, Below.refl _ _⟩
  have hlen' : ¬ (1048576 : Int) < (len : Int) := by omega
  go_enter Tryd.func4, Tryd.ntmps4
  go_wp2_with fail
  refine (drawFibreBack_any s len cap w h).mono ?_
  rintro e W0 ⟨a, cap0, ls, rfl, hly, hl7, hb⟩
  have kaW0 : Acc w W0 := hb
  have ksW0 := kaW0.size
  have hn : ls.length ≤ 1048576 := by omega
  have H := Lib.hid fun (W : World) (k : Below W0.heap.size W0 W) => hly.keep k
  clear hb h hly
  have kbW0 : Acc W0 W0 := Acc.refl _
  cases hv : okFb ls with
  | false =>
    have HP := Lib.hid fun (a' : Option Addr) (c' : Nat) (W : World) (l : Lys W a' ls) (k : Acc w W) => implFbBack_any a' ls c' W l hn (HL.out W k)
    have HS := Lib.hid fun (W : World) (l : Lys W a ls) => specFbBack_any a ls cap0 W l hn
    rw [hv] at HP HS
    clear hv
    go_wp2_with fail
    refine (HP.out _ _ _ (H.out _ (show Acc W0 _ by repeat' (first | (with_reducible first | assumption | exact Acc.refl _ | refine Acc.drew ?_ | refine Acc.drewN ?_ _ | refine Acc.alloc ?_ _ | refine Acc.setCell ?_ ?_ _) | (refine leB ?_; omega)))) (show Acc w _ by repeat' (first | (with_reducible first | assumption | exact Acc.refl _ | refine Acc.drew ?_ | refine Acc.drewN ?_ _ | refine Acc.alloc ?_ _ | refine Acc.setCell ?_ ?_ _) | (refine leB ?_; omega)))).mono ?_
    rintro e W1 ⟨vp, gp, rfl, hgp, hw, hb⟩
    obtain ⟨ap, capp, rfl⟩ := hw.open
    have kbW1 : Acc W0 W1 := Acc.call (show Acc W0 _ by repeat' (first | (with_reducible first | assumption | exact Acc.refl _ | refine Acc.drew ?_ | refine Acc.drewN ?_ _ | refine Acc.alloc ?_ _ | refine Acc.setCell ?_ ?_ _) | (refine leB ?_; omega))) hb
    have kaW1 : Acc w W1 := by
      refine Acc.call ?_ hb
      (repeat' (first | (with_reducible first | assumption | exact Acc.refl _ | refine Acc.drew ?_ | refine Acc.drewN ?_ _ | refine Acc.alloc ?_ _ | refine Acc.setCell ?_ ?_ _) | (refine leB ?_; omega)))
    clear hb
    have ksW1 : w.heap.size ≤ W1.heap.size := kaW1.size
    have kcW1 : Acc W1 W1 := Acc.refl _
    have Rp : RowKit.Hid (Wr gp W1 (.slice ap 0 capp) []) := Lib.hid hw
    clear hw
    go_wp2_with fail
    refine (HS.out _ (H.out _ (show Acc W0 _ by repeat' (first | (with_reducible first | assumption | exact Acc.refl _ | refine Acc.drew ?_ | refine Acc.drewN ?_ _ | refine Acc.alloc ?_ _ | refine Acc.setCell ?_ ?_ _) | (refine leB ?_; omega))))).mono ?_
    rintro e W2 ⟨vm, gm, rfl, hgm, hggm, hw, hb⟩
    obtain ⟨am, capm, rfl⟩ := hw.open
    have Rp : RowKit.Hid (Wr gp W2 (.slice ap 0 capp) []) := Lib.hid (Wr.keep Rp.out (Acc.call (show Acc W1 _ by repeat' (first | (with_reducible first | assumption | exact Acc.refl _ | refine Acc.drew ?_ | refine Acc.drewN ?_ _ | refine Acc.alloc ?_ _ | refine Acc.setCell ?_ ?_ _) | (refine leB ?_; omega))) hb))
    have kbW2 : Acc W0 W2 := Acc.call (show Acc W0 _ by repeat' (first | (with_reducible first | assumption | exact Acc.refl _ | refine Acc.drew ?_ | refine Acc.drewN ?_ _ | refine Acc.alloc ?_ _ | refine Acc.setCell ?_ ?_ _) | (refine leB ?_; omega))) hb
    have kaW2 : Acc w W2 := by
      refine Acc.call ?_ hb
      (repeat' (first | (with_reducible first | assumption | exact Acc.refl _ | refine Acc.drew ?_ | refine Acc.drewN ?_ _ | refine Acc.alloc ?_ _ | refine Acc.setCell ?_ ?_ _) | (refine leB ?_; omega)))
    clear hb
    have ksW2 : w.heap.size ≤ W2.heap.size := kaW2.size
    have kcW2 : Acc W2 W2 := Acc.refl _
    have Rm : RowKit.Hid (Wr gm W2 (.slice am 0 capm) []) := Lib.hid hw
    clear hw
    go_wp2_with fail
    refine (sameFib_any _ _ [] _ _ _ (Wr.lys' (Wr.keep Rp.out (show Acc W2 _ by repeat' (first | (with_reducible first | assumption | exact Acc.refl _ | refine Acc.drew ?_ | refine Acc.drewN ?_ _ | refine Acc.alloc ?_ _ | refine Acc.setCell ?_ ?_ _) | (refine leB ?_; omega))))) (Wr.lys' (Wr.keep Rm.out (show Acc W2 _ by repeat' (first | (with_reducible first | assumption | exact Acc.refl _ | refine Acc.drew ?_ | refine Acc.drewN ?_ _ | refine Acc.alloc ?_ _ | refine Acc.setCell ?_ ?_ _) | (refine leB ?_; omega))))) (Nat.zero_le _)).mono ?_
    rintro e W3 ⟨rfl, hb⟩
    have Rp : RowKit.Hid (Wr gp W3 (.slice ap 0 capp) []) := Lib.hid (Wr.keep Rp.out (Acc.call (show Acc W2 _ by repeat' (first | (with_reducible first | assumption | exact Acc.refl _ | refine Acc.drew ?_ | refine Acc.drewN ?_ _ | refine Acc.alloc ?_ _ | refine Acc.setCell ?_ ?_ _) | (refine leB ?_; omega))) hb))
    have Rm : RowKit.Hid (Wr gm W3 (.slice am 0 capm) []) := Lib.hid (Wr.keep Rm.out (Acc.call (show Acc W2 _ by repeat' (first | (with_reducible first | assumption | exact Acc.refl _ | refine Acc.drew ?_ | refine Acc.drewN ?_ _ | refine Acc.alloc ?_ _ | refine Acc.setCell ?_ ?_ _) | (refine leB ?_; omega))) hb))
    have kbW3 : Acc W0 W3 := Acc.call (show Acc W0 _ by repeat' (first | (with_reducible first | assumption | exact Acc.refl _ | refine Acc.drew ?_ | refine Acc.drewN ?_ _ | refine Acc.alloc ?_ _ | refine Acc.setCell ?_ ?_ _) | (refine leB ?_; omega))) hb
    have kaW3 : Acc w W3 := by
      refine Acc.call ?_ hb
      (repeat' (first | (with_reducible first | assumption | exact Acc.refl _ | refine Acc.drew ?_ | refine Acc.drewN ?_ _ | refine Acc.alloc ?_ _ | refine Acc.setCell ?_ ?_ _) | (refine leB ?_; omega)))
    clear hb
    have ksW3 : w.heap.size ≤ W3.heap.size := kaW3.size
    have kcW3 : Acc W3 W3 := Acc.refl _
    go_wp2_with fail
    refine (sameFib_any _ _ [] _ _ _ (Wr.lys' (Wr.keep Rp.out (show Acc W3 _ by repeat' (first | (with_reducible first | assumption | exact Acc.refl _ | refine Acc.drew ?_ | refine Acc.drewN ?_ _ | refine Acc.alloc ?_ _ | refine Acc.setCell ?_ ?_ _) | (refine leB ?_; omega))))) (Wr.lys' (Wr.keep Rm.out (show Acc W3 _ by repeat' (first | (with_reducible first | assumption | exact Acc.refl _ | refine Acc.drew ?_ | refine Acc.drewN ?_ _ | refine Acc.alloc ?_ _ | refine Acc.setCell ?_ ?_ _) | (refine leB ?_; omega))))) (Nat.zero_le _)).mono ?_
    rintro e W4 ⟨rfl, hb⟩
    have Rp : RowKit.Hid (Wr gp W4 (.slice ap 0 capp) []) := Lib.hid (Wr.keep Rp.out (Acc.call (show Acc W3 _ by repeat' (first | (with_reducible first | assumption | exact Acc.refl _ | refine Acc.drew ?_ | refine Acc.drewN ?_ _ | refine Acc.alloc ?_ _ | refine Acc.setCell ?_ ?_ _) | (refine leB ?_; omega))) hb))
    have Rm : RowKit.Hid (Wr gm W4 (.slice am 0 capm) []) := Lib.hid (Wr.keep Rm.out (Acc.call (show Acc W3 _ by repeat' (first | (with_reducible first | assumption | exact Acc.refl _ | refine Acc.drew ?_ | refine Acc.drewN ?_ _ | refine Acc.alloc ?_ _ | refine Acc.setCell ?_ ?_ _) | (refine leB ?_; omega))) hb))
    have kbW4 : Acc W0 W4 := Acc.call (show Acc W0 _ by repeat' (first | (with_reducible first | assumption | exact Acc.refl _ | refine Acc.drew ?_ | refine Acc.drewN ?_ _ | refine Acc.alloc ?_ _ | refine Acc.setCell ?_ ?_ _) | (refine leB ?_; omega))) hb
    have kaW4 : Acc w W4 := by
      refine Acc.call ?_ hb
      (repeat' (first | (with_reducible first | assumption | exact Acc.refl _ | refine Acc.drew ?_ | refine Acc.drewN ?_ _ | refine Acc.alloc ?_ _ | refine Acc.setCell ?_ ?_ _) | (refine leB ?_; omega)))
    clear hb
    have ksW4 : w.heap.size ≤ W4.heap.size := kaW4.size
    have kcW4 : Acc W4 W4 := Acc.refl _
    go_wp2_with fail
    go_ret
    refine ⟨by first | rfl | (simp [*]; done) | (simp [go_sem, *]; done), ?_⟩
    show Acc w _
    (repeat' (first | (with_reducible first | assumption | exact Acc.refl _ | refine Acc.drew ?_ | refine Acc.drewN ?_ _ | refine Acc.alloc ?_ _ | refine Acc.setCell ?_ ?_ _) | (refine leB ?_; omega)))
  | true =>
    have HP := Lib.hid fun (a' : Option Addr) (c' : Nat) (W : World) (l : Lys W a' ls) (k : Acc w W) => implFbBack_any a' ls c' W l hn (HL.out W k)
    have HS := Lib.hid fun (W : World) (l : Lys W a ls) => specFbBack_any a ls cap0 W l hn
    rw [hv, if_pos rfl] at HP HS
    have h2 := backM_back hv
    have hok := backM_ok hv
    have hle := Nat.le_of_eq (backM_len ls)
    obtain ⟨RS, hRS⟩ : ∃ RS, backM ls = RS := ⟨_, rfl⟩
    rw [hRS] at HP HS h2 hok hle
    clear hRS hv
    have hr8 : RS.length ≤ 1048576 := by omega
    have HQ := Lib.hid fun a' cap' (W : World) (l : Lys W a' RS) (k : Acc w W) => implFbBack_any a' RS cap' W l hr8 (HL.out W k)
    rw [hok, if_pos rfl, h2] at HQ
    clear h2 hok
    go_wp2_with fail
    refine (HP.out _ _ _ (H.out _ (show Acc W0 _ by repeat' (first | (with_reducible first | assumption | exact Acc.refl _ | refine Acc.drew ?_ | refine Acc.drewN ?_ _ | refine Acc.alloc ?_ _ | refine Acc.setCell ?_ ?_ _) | (refine leB ?_; omega)))) (show Acc w _ by repeat' (first | (with_reducible first | assumption | exact Acc.refl _ | refine Acc.drew ?_ | refine Acc.drewN ?_ _ | refine Acc.alloc ?_ _ | refine Acc.setCell ?_ ?_ _) | (refine leB ?_; omega)))).mono ?_
    rintro e W1 ⟨vp, gp, rfl, hgp, hw, hb⟩
    obtain ⟨ap, capp, rfl⟩ := hw.open
    have kbW1 : Acc W0 W1 := Acc.call (show Acc W0 _ by repeat' (first | (with_reducible first | assumption | exact Acc.refl _ | refine Acc.drew ?_ | refine Acc.drewN ?_ _ | refine Acc.alloc ?_ _ | refine Acc.setCell ?_ ?_ _) | (refine leB ?_; omega))) hb
    have kaW1 : Acc w W1 := by
      refine Acc.call ?_ hb
      (repeat' (first | (with_reducible first | assumption | exact Acc.refl _ | refine Acc.drew ?_ | refine Acc.drewN ?_ _ | refine Acc.alloc ?_ _ | refine Acc.setCell ?_ ?_ _) | (refine leB ?_; omega)))
    clear hb
    have ksW1 : w.heap.size ≤ W1.heap.size := kaW1.size
    have kcW1 : Acc W1 W1 := Acc.refl _
    have Rp : RowKit.Hid (Wr gp W1 (.slice ap RS.length capp) RS) := Lib.hid hw
    clear hw
    go_wp2_with fail
    refine (HS.out _ (H.out _ (show Acc W0 _ by repeat' (first | (with_reducible first | assumption | exact Acc.refl _ | refine Acc.drew ?_ | refine Acc.drewN ?_ _ | refine Acc.alloc ?_ _ | refine Acc.setCell ?_ ?_ _) | (refine leB ?_; omega))))).mono ?_
    rintro e W2 ⟨vm, gm, rfl, hgm, hggm, hw, hb⟩
    obtain ⟨am, capm, rfl⟩ := hw.open
    have Rp : RowKit.Hid (Wr gp W2 (.slice ap RS.length capp) RS) := Lib.hid (Wr.keep Rp.out (Acc.call (show Acc W1 _ by repeat' (first | (with_reducible first | assumption | exact Acc.refl _ | refine Acc.drew ?_ | refine Acc.drewN ?_ _ | refine Acc.alloc ?_ _ | refine Acc.setCell ?_ ?_ _) | (refine leB ?_; omega))) hb))
    have kbW2 : Acc W0 W2 := Acc.call (show Acc W0 _ by repeat' (first | (with_reducible first | assumption | exact Acc.refl _ | refine Acc.drew ?_ | refine Acc.drewN ?_ _ | refine Acc.alloc ?_ _ | refine Acc.setCell ?_ ?_ _) | (refine leB ?_; omega))) hb
    have kaW2 : Acc w W2 := by
      refine Acc.call ?_ hb
      (repeat' (first | (with_reducible first | assumption | exact Acc.refl _ | refine Acc.drew ?_ | refine Acc.drewN ?_ _ | refine Acc.alloc ?_ _ | refine Acc.setCell ?_ ?_ _) | (refine leB ?_; omega)))
    clear hb
    have ksW2 : w.heap.size ≤ W2.heap.size := kaW2.size
    have kcW2 : Acc W2 W2 := Acc.refl _
    have Rm : RowKit.Hid (Wr gm W2 (.slice am RS.length capm) RS) := Lib.hid hw
    clear hw
    go_wp2_with fail
    refine (sameFib_any _ _ RS _ _ _ (Wr.lys' (Wr.keep Rp.out (show Acc W2 _ by repeat' (first | (with_reducible first | assumption | exact Acc.refl _ | refine Acc.drew ?_ | refine Acc.drewN ?_ _ | refine Acc.alloc ?_ _ | refine Acc.setCell ?_ ?_ _) | (refine leB ?_; omega))))) (Wr.lys' (Wr.keep Rm.out (show Acc W2 _ by repeat' (first | (with_reducible first | assumption | exact Acc.refl _ | refine Acc.drew ?_ | refine Acc.drewN ?_ _ | refine Acc.alloc ?_ _ | refine Acc.setCell ?_ ?_ _) | (refine leB ?_; omega))))) hr8).mono ?_
    rintro e W3 ⟨rfl, hb⟩
    have Rp : RowKit.Hid (Wr gp W3 (.slice ap RS.length capp) RS) := Lib.hid (Wr.keep Rp.out (Acc.call (show Acc W2 _ by repeat' (first | (with_reducible first | assumption | exact Acc.refl _ | refine Acc.drew ?_ | refine Acc.drewN ?_ _ | refine Acc.alloc ?_ _ | refine Acc.setCell ?_ ?_ _) | (refine leB ?_; omega))) hb))
    have Rm : RowKit.Hid (Wr gm W3 (.slice am RS.length capm) RS) := Lib.hid (Wr.keep Rm.out (Acc.call (show Acc W2 _ by repeat' (first | (with_reducible first | assumption | exact Acc.refl _ | refine Acc.drew ?_ | refine Acc.drewN ?_ _ | refine Acc.alloc ?_ _ | refine Acc.setCell ?_ ?_ _) | (refine leB ?_; omega))) hb))
    have kbW3 : Acc W0 W3 := Acc.call (show Acc W0 _ by repeat' (first | (with_reducible first | assumption | exact Acc.refl _ | refine Acc.drew ?_ | refine Acc.drewN ?_ _ | refine Acc.alloc ?_ _ | refine Acc.setCell ?_ ?_ _) | (refine leB ?_; omega))) hb
    have kaW3 : Acc w W3 := by
      refine Acc.call ?_ hb
      (repeat' (first | (with_reducible first | assumption | exact Acc.refl _ | refine Acc.drew ?_ | refine Acc.drewN ?_ _ | refine Acc.alloc ?_ _ | refine Acc.setCell ?_ ?_ _) | (refine leB ?_; omega)))
    clear hb
    have ksW3 : w.heap.size ≤ W3.heap.size := kaW3.size
    have kcW3 : Acc W3 W3 := Acc.refl _
    go_wp2_with fail
    refine (HQ.out _ _ _ (Wr.lys' (Wr.keep Rp.out (show Acc W3 _ by repeat' (first | (with_reducible first | assumption | exact Acc.refl _ | refine Acc.drew ?_ | refine Acc.drewN ?_ _ | refine Acc.alloc ?_ _ | refine Acc.setCell ?_ ?_ _) | (refine leB ?_; omega))))) (show Acc w _ by repeat' (first | (with_reducible first | assumption | exact Acc.refl _ | refine Acc.drew ?_ | refine Acc.drewN ?_ _ | refine Acc.alloc ?_ _ | refine Acc.setCell ?_ ?_ _) | (refine leB ?_; omega)))).mono ?_
    rintro e W4 ⟨vx, gx, rfl, hgx, hw, hb⟩
    obtain ⟨ax, capx, rfl⟩ := hw.open
    have Rp : RowKit.Hid (Wr gp W4 (.slice ap RS.length capp) RS) := Lib.hid (Wr.keep Rp.out (Acc.call (show Acc W3 _ by repeat' (first | (with_reducible first | assumption | exact Acc.refl _ | refine Acc.drew ?_ | refine Acc.drewN ?_ _ | refine Acc.alloc ?_ _ | refine Acc.setCell ?_ ?_ _) | (refine leB ?_; omega))) hb))
    have Rm : RowKit.Hid (Wr gm W4 (.slice am RS.length capm) RS) := Lib.hid (Wr.keep Rm.out (Acc.call (show Acc W3 _ by repeat' (first | (with_reducible first | assumption | exact Acc.refl _ | refine Acc.drew ?_ | refine Acc.drewN ?_ _ | refine Acc.alloc ?_ _ | refine Acc.setCell ?_ ?_ _) | (refine leB ?_; omega))) hb))
    have kbW4 : Acc W0 W4 := Acc.call (show Acc W0 _ by repeat' (first | (with_reducible first | assumption | exact Acc.refl _ | refine Acc.drew ?_ | refine Acc.drewN ?_ _ | refine Acc.alloc ?_ _ | refine Acc.setCell ?_ ?_ _) | (refine leB ?_; omega))) hb
    have kaW4 : Acc w W4 := by
      refine Acc.call ?_ hb
      (repeat' (first | (with_reducible first | assumption | exact Acc.refl _ | refine Acc.drew ?_ | refine Acc.drewN ?_ _ | refine Acc.alloc ?_ _ | refine Acc.setCell ?_ ?_ _) | (refine leB ?_; omega)))
    clear hb
    have ksW4 : w.heap.size ≤ W4.heap.size := kaW4.size
    have kcW4 : Acc W4 W4 := Acc.refl _
    have Rx : RowKit.Hid (Wr gx W4 (.slice ax ls.length capx) ls) := Lib.hid hw
    clear hw
    go_wp2_with fail
    refine (sameFib_any _ _ ls _ _ _ (Wr.lys' (Wr.keep Rx.out (show Acc W4 _ by repeat' (first | (with_reducible first | assumption | exact Acc.refl _ | refine Acc.drew ?_ | refine Acc.drewN ?_ _ | refine Acc.alloc ?_ _ | refine Acc.setCell ?_ ?_ _) | (refine leB ?_; omega))))) (H.out _ (show Acc W0 _ by repeat' (first | (with_reducible first | assumption | exact Acc.refl _ | refine Acc.drew ?_ | refine Acc.drewN ?_ _ | refine Acc.alloc ?_ _ | refine Acc.setCell ?_ ?_ _) | (refine leB ?_; omega)))) hn).mono ?_
    rintro e W5 ⟨rfl, hb⟩
    have Rp : RowKit.Hid (Wr gp W5 (.slice ap RS.length capp) RS) := Lib.hid (Wr.keep Rp.out (Acc.call (show Acc W4 _ by repeat' (first | (with_reducible first | assumption | exact Acc.refl _ | refine Acc.drew ?_ | refine Acc.drewN ?_ _ | refine Acc.alloc ?_ _ | refine Acc.setCell ?_ ?_ _) | (refine leB ?_; omega))) hb))
    have Rm : RowKit.Hid (Wr gm W5 (.slice am RS.length capm) RS) := Lib.hid (Wr.keep Rm.out (Acc.call (show Acc W4 _ by repeat' (first | (with_reducible first | assumption | exact Acc.refl _ | refine Acc.drew ?_ | refine Acc.drewN ?_ _ | refine Acc.alloc ?_ _ | refine Acc.setCell ?_ ?_ _) | (refine leB ?_; omega))) hb))
    have Rx : RowKit.Hid (Wr gx W5 (.slice ax ls.length capx) ls) := Lib.hid (Wr.keep Rx.out (Acc.call (show Acc W4 _ by repeat' (first | (with_reducible first | assumption | exact Acc.refl _ | refine Acc.drew ?_ | refine Acc.drewN ?_ _ | refine Acc.alloc ?_ _ | refine Acc.setCell ?_ ?_ _) | (refine leB ?_; omega))) hb))
    have kbW5 : Acc W0 W5 := Acc.call (show Acc W0 _ by repeat' (first | (with_reducible first | assumption | exact Acc.refl _ | refine Acc.drew ?_ | refine Acc.drewN ?_ _ | refine Acc.alloc ?_ _ | refine Acc.setCell ?_ ?_ _) | (refine leB ?_; omega))) hb
    have kaW5 : Acc w W5 := by
      refine Acc.call ?_ hb
      (repeat' (first | (with_reducible first | assumption | exact Acc.refl _ | refine Acc.drew ?_ | refine Acc.drewN ?_ _ | refine Acc.alloc ?_ _ | refine Acc.setCell ?_ ?_ _) | (refine leB ?_; omega)))
    clear hb
    have ksW5 : w.heap.size ≤ W5.heap.size := kaW5.size
    have kcW5 : Acc W5 W5 := Acc.refl _
    go_wp2_with fail
    go_ret
    refine ⟨by first | rfl | (simp [*]; done) | (simp [go_sem, *]; done), ?_⟩
    show Acc w _
    (repeat' (first | (with_reducible first | assumption | exact Acc.refl _ | refine Acc.drew ?_ | refine Acc.drewN ?_ _ | refine Acc.alloc ?_ _ | refine Acc.setCell ?_ ?_ _) | (refine leB ?_; omega)))
end Go.Proofs.YtkdkeacfifjjoaaDoor
