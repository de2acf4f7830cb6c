/-
  The law FnFibre.
-/
import Derived.Test.YtkdkeacfifjjoaaDoorBShort
import Derived.Test.YtkdkeacfifjjoaaDoorBFibO
import Derived.Test.YtkdkeacfifjjoaaDoorSpecG1
import Derived.Test.YtkdkeacfifjjoaaDoorBSec
namespace Go.Proofs.YtkdkeacfifjjoaaDoor
open Go.ChangeShapes Go.WideShapes Go.ChangeAt Go.RowKit
set_option linter.unusedVariables false

set_option linter.unusedSimpArgs false
theorem Wr.lys' {g n cap : Nat} {w : World} {a : Option Addr} {ls : List L4} (h : Wr g w (.slice a n cap) ls) : Lys w a ls := by
  obtain ⟨a', cap', e, h⟩ := h.lys
  injection e with e1 e2 e3
  subst e1
  exact h
theorem Wr.open {g : Nat} {w : World} {v : Value} {ls : List L4} (h : Wr g w v ls) : ∃ a cap, v = .slice a ls.length cap := by
  obtain ⟨a, cap, e, -⟩ := h
  exact ⟨a, cap, e⟩
theorem okFb_init {ls : List L4} (h : okFb ls = true) : okFb (ls.take (ls.length - 1)) = true := by
  obtain ⟨h1, h2⟩ := okFb_all h
  unfold okFb
  rw [decide_eq_true (show (ls.take (ls.length - 1)).length ≤ 8 by rw [List.length_take]; omega), Bool.and_true]
  exact List.all_eq_true.2 fun x hx => List.all_eq_true.1 h1 x (List.mem_of_mem_take hx)
theorem Lys.take {w : World} {a : Option Addr} {ls : List L4} (h : Lys w a ls) (n : Nat) : Lys w a (ls.take n) := by
  refine ⟨fun l hl => h.1 l (List.mem_of_mem_take hl), ?_⟩
  rcases h.2 with rfl | ⟨c, off, e, hc, hx⟩
  · exact .inl (by simp)
  · refine .inr ⟨c, off, e, hc, fun i l hi => hx i l ?_⟩
    rw [List.getElem?_take] at hi
    split at hi
    · exact hi
    · cases hi
set_option maxRecDepth 100000 in
set_option maxHeartbeats 16000000 in
theorem fnFibre_law (w : World) (hl : Laid w) (s : Option Addr) (len cap : Nat) (h : Code8 w s len cap) :
    Calls Tryd.prog 3 #[.slice s len cap] w (Fine w) := by
  have hm := h.2.1
  have hl' := h.1
  unfold maxLen at hm
  have HL := Lib.hid fun W (k : Acc w W) => hl.acc k
  clear hl
  by_cases hlen : 1048576 < len
  · clear h
    have hlen' : (1048576 : Int) < (len : Int) := by omega
    go_enter Tryd.func3, Tryd.ntmps3
    go_wp2_with fail
    go_ret
    exact ⟨rfl, Below.refl _ _⟩
  have hlen' : ¬ (1048576 : Int) < (len : Int) := by omega
  go_enter Tryd.func3, Tryd.ntmps3
  go_wp2_with fail
  refine (drawFibreValid_any s len cap w h).mono ?_
  rintro e W0 ⟨a, cap0, ls, rfl, hly, hl7, hcp, hb⟩
  have kaW0 : Acc w W0 := hb
  have ksW0 := kaW0.size
  have hn : ls.length ≤ 1048576 := by omega
  have H := Lib.hid fun (W : World) (k : Below W0.heap.size W0 W) => hly.keep k
  clear hb h hly
  have kbW0 : Acc W0 W0 := Acc.refl _
  have HV := Lib.hid fun (a' : Option Addr) (ms : List L4) (hm : ms.length ≤ 1048576) (c' : Nat) (W : World) (l : Lys W a' ms) (k : Acc w W) => implFbValid_any a' ms c' W l hm (HL.out W k)
  have HS := Lib.hid fun (W : World) (l : Lys W a ls) => specFbValid_any a ls cap0 W l hn
  cases hv : okFb ls with
  | false =>
    have HO := Lib.hid hv
    clear hv
    go_wp2_with fail
    refine (valid_at HO.out (HV.out _ _ hn _ _ (H.out _ (show Acc W0 _ by repeat' (first | (with_reducible first | assumption | exact Acc.refl _ | refine Acc.drew ?_ | refine Acc.drewN ?_ _ | refine Acc.alloc ?_ _ | refine Acc.setCell ?_ ?_ _) | (refine leB ?_; omega)))) (show Acc w _ by repeat' (first | (with_reducible first | assumption | exact Acc.refl _ | refine Acc.drew ?_ | refine Acc.drewN ?_ _ | refine Acc.alloc ?_ _ | refine Acc.setCell ?_ ?_ _) | (refine leB ?_; omega))))).mono ?_
    rintro e W1 ⟨rfl, hb⟩
    have kbW1 : Acc W0 W1 := Acc.call (show Acc W0 _ by repeat' (first | (with_reducible first | assumption | exact Acc.refl _ | refine Acc.drew ?_ | refine Acc.drewN ?_ _ | refine Acc.alloc ?_ _ | refine Acc.setCell ?_ ?_ _) | (refine leB ?_; omega))) hb
    have kaW1 : Acc w W1 := by
      refine Acc.call ?_ hb
      (repeat' (first | (with_reducible first | assumption | exact Acc.refl _ | refine Acc.drew ?_ | refine Acc.drewN ?_ _ | refine Acc.alloc ?_ _ | refine Acc.setCell ?_ ?_ _) | (refine leB ?_; omega)))
    clear hb
    have ksW1 : w.heap.size ≤ W1.heap.size := kaW1.size
    have kcW1 : Acc W1 W1 := Acc.refl _
    go_wp2_with fail
    refine (valid_at HO.out (HS.out _ (H.out _ (show Acc W0 _ by repeat' (first | (with_reducible first | assumption | exact Acc.refl _ | refine Acc.drew ?_ | refine Acc.drewN ?_ _ | refine Acc.alloc ?_ _ | refine Acc.setCell ?_ ?_ _) | (refine leB ?_; omega)))))).mono ?_
    rintro e W2 ⟨rfl, hb⟩
    have kbW2 : Acc W0 W2 := Acc.call (show Acc W0 _ by repeat' (first | (with_reducible first | assumption | exact Acc.refl _ | refine Acc.drew ?_ | refine Acc.drewN ?_ _ | refine Acc.alloc ?_ _ | refine Acc.setCell ?_ ?_ _) | (refine leB ?_; omega))) hb
    have kaW2 : Acc w W2 := by
      refine Acc.call ?_ hb
      (repeat' (first | (with_reducible first | assumption | exact Acc.refl _ | refine Acc.drew ?_ | refine Acc.drewN ?_ _ | refine Acc.alloc ?_ _ | refine Acc.setCell ?_ ?_ _) | (refine leB ?_; omega)))
    clear hb
    have ksW2 : w.heap.size ≤ W2.heap.size := kaW2.size
    have kcW2 : Acc W2 W2 := Acc.refl _
    go_wp2_with fail
    go_ret
    refine ⟨by first | rfl | (simp [*]; done) | (simp [go_sem, *]; done), ?_⟩
    show Acc w _
    (repeat' (first | (with_reducible first | assumption | exact Acc.refl _ | refine Acc.drew ?_ | refine Acc.drewN ?_ _ | refine Acc.alloc ?_ _ | refine Acc.setCell ?_ ?_ _) | (refine leB ?_; omega)))
  | true =>
    have HP := Lib.hid fun (a' : Option Addr) (c' : Nat) (W : World) (l : Lys W a' ls) (k : Acc w W) => implFbBack_any a' ls c' W l hn (HL.out W k)
    rw [hv, if_pos rfl] at HP
    have hok := Lib.hid (backM_ok hv)
    have hle := Nat.le_of_eq (backM_len ls)
    obtain ⟨RS, hRS⟩ : ∃ RS, backM ls = RS := ⟨_, rfl⟩
    rw [hRS] at HP hok hle
    clear hRS
    have hr8 : RS.length ≤ 1048576 := by omega
    have HO := Lib.hid hv
    have HI := Lib.hid (okFb_init hv)
    clear hv
    go_wp2_with fail
    refine (valid_at HO.out (HV.out _ _ hn _ _ (H.out _ (show Acc W0 _ by repeat' (first | (with_reducible first | assumption | exact Acc.refl _ | refine Acc.drew ?_ | refine Acc.drewN ?_ _ | refine Acc.alloc ?_ _ | refine Acc.setCell ?_ ?_ _) | (refine leB ?_; omega)))) (show Acc w _ by repeat' (first | (with_reducible first | assumption | exact Acc.refl _ | refine Acc.drew ?_ | refine Acc.drewN ?_ _ | refine Acc.alloc ?_ _ | refine Acc.setCell ?_ ?_ _) | (refine leB ?_; omega))))).mono ?_
    rintro e W1 ⟨rfl, hb⟩
    have kbW1 : Acc W0 W1 := Acc.call (show Acc W0 _ by repeat' (first | (with_reducible first | assumption | exact Acc.refl _ | refine Acc.drew ?_ | refine Acc.drewN ?_ _ | refine Acc.alloc ?_ _ | refine Acc.setCell ?_ ?_ _) | (refine leB ?_; omega))) hb
    have kaW1 : Acc w W1 := by
      refine Acc.call ?_ hb
      (repeat' (first | (with_reducible first | assumption | exact Acc.refl _ | refine Acc.drew ?_ | refine Acc.drewN ?_ _ | refine Acc.alloc ?_ _ | refine Acc.setCell ?_ ?_ _) | (refine leB ?_; omega)))
    clear hb
    have ksW1 : w.heap.size ≤ W1.heap.size := kaW1.size
    have kcW1 : Acc W1 W1 := Acc.refl _
    go_wp2_with fail
    refine (valid_at HO.out (HS.out _ (H.out _ (show Acc W0 _ by repeat' (first | (with_reducible first | assumption | exact Acc.refl _ | refine Acc.drew ?_ | refine Acc.drewN ?_ _ | refine Acc.alloc ?_ _ | refine Acc.setCell ?_ ?_ _) | (refine leB ?_; omega)))))).mono ?_
    rintro e W2 ⟨rfl, hb⟩
    have kbW2 : Acc W0 W2 := Acc.call (show Acc W0 _ by repeat' (first | (with_reducible first | assumption | exact Acc.refl _ | refine Acc.drew ?_ | refine Acc.drewN ?_ _ | refine Acc.alloc ?_ _ | refine Acc.setCell ?_ ?_ _) | (refine leB ?_; omega))) hb
    have kaW2 : Acc w W2 := by
      refine Acc.call ?_ hb
      (repeat' (first | (with_reducible first | assumption | exact Acc.refl _ | refine Acc.drew ?_ | refine Acc.drewN ?_ _ | refine Acc.alloc ?_ _ | refine Acc.setCell ?_ ?_ _) | (refine leB ?_; omega)))
    clear hb
    have ksW2 : w.heap.size ≤ W2.heap.size := kaW2.size
    have kcW2 : Acc W2 W2 := Acc.refl _
    by_cases hz : (ls.length : Int) = 0
    ·
      have hz1 : ((ls.length : Int) == 0) = true := by rw [hz]; rfl
      have HZ := Lib.hid hz
      clear hz
      go_wp2_with fail
      refine (HP.out _ _ _ (H.out _ (show Acc W0 _ by repeat' (first | (with_reducible first | assumption | exact Acc.refl _ | refine Acc.drew ?_ | refine Acc.drewN ?_ _ | refine Acc.alloc ?_ _ | refine Acc.setCell ?_ ?_ _) | (refine leB ?_; omega)))) (show Acc w _ by repeat' (first | (with_reducible first | assumption | exact Acc.refl _ | refine Acc.drew ?_ | refine Acc.drewN ?_ _ | refine Acc.alloc ?_ _ | refine Acc.setCell ?_ ?_ _) | (refine leB ?_; omega)))).mono ?_
      rintro e W3 ⟨vp, gp, rfl, hgp, hw, hb⟩
      obtain ⟨ap, capp, rfl⟩ := hw.open
      have kbW3 : Acc W0 W3 := Acc.call (show Acc W0 _ by repeat' (first | (with_reducible first | assumption | exact Acc.refl _ | refine Acc.drew ?_ | refine Acc.drewN ?_ _ | refine Acc.alloc ?_ _ | refine Acc.setCell ?_ ?_ _) | (refine leB ?_; omega))) hb
      have kaW3 : Acc w W3 := by
        refine Acc.call ?_ hb
        (repeat' (first | (with_reducible first | assumption | exact Acc.refl _ | refine Acc.drew ?_ | refine Acc.drewN ?_ _ | refine Acc.alloc ?_ _ | refine Acc.setCell ?_ ?_ _) | (refine leB ?_; omega)))
      clear hb
      have ksW3 : w.heap.size ≤ W3.heap.size := kaW3.size
      have kcW3 : Acc W3 W3 := Acc.refl _
      have Rp : RowKit.Hid (Wr gp W3 (.slice ap RS.length capp) RS) := Lib.hid hw
      clear hw
      go_wp2_with fail
      refine (valid_at hok.out (HV.out _ _ hr8 _ _ (Wr.lys' (Wr.keep Rp.out (show Acc W3 _ by repeat' (first | (with_reducible first | assumption | exact Acc.refl _ | refine Acc.drew ?_ | refine Acc.drewN ?_ _ | refine Acc.alloc ?_ _ | refine Acc.setCell ?_ ?_ _) | (refine leB ?_; omega))))) (show Acc w _ by repeat' (first | (with_reducible first | assumption | exact Acc.refl _ | refine Acc.drew ?_ | refine Acc.drewN ?_ _ | refine Acc.alloc ?_ _ | refine Acc.setCell ?_ ?_ _) | (refine leB ?_; omega))))).mono ?_
      rintro e W4 ⟨rfl, hb⟩
      have Rp : RowKit.Hid (Wr gp W4 (.slice ap RS.length capp) RS) := Lib.hid (Wr.keep Rp.out (Acc.call (show Acc W3 _ by repeat' (first | (with_reducible first | assumption | exact Acc.refl _ | refine Acc.drew ?_ | refine Acc.drewN ?_ _ | refine Acc.alloc ?_ _ | refine Acc.setCell ?_ ?_ _) | (refine leB ?_; omega))) hb))
      have kbW4 : Acc W0 W4 := Acc.call (show Acc W0 _ by repeat' (first | (with_reducible first | assumption | exact Acc.refl _ | refine Acc.drew ?_ | refine Acc.drewN ?_ _ | refine Acc.alloc ?_ _ | refine Acc.setCell ?_ ?_ _) | (refine leB ?_; omega))) hb
      have kaW4 : Acc w W4 := by
        refine Acc.call ?_ hb
        (repeat' (first | (with_reducible first | assumption | exact Acc.refl _ | refine Acc.drew ?_ | refine Acc.drewN ?_ _ | refine Acc.alloc ?_ _ | refine Acc.setCell ?_ ?_ _) | (refine leB ?_; omega)))
      clear hb
      have ksW4 : w.heap.size ≤ W4.heap.size := kaW4.size
      have kcW4 : Acc W4 W4 := Acc.refl _
      go_wp2_with fail
      go_ret
      refine ⟨by first | rfl | (simp [*]; done) | (simp [go_sem, *]; done), ?_⟩
      show Acc w _
      (repeat' (first | (with_reducible first | assumption | exact Acc.refl _ | refine Acc.drew ?_ | refine Acc.drewN ?_ _ | refine Acc.alloc ?_ _ | refine Acc.setCell ?_ ?_ _) | (refine leB ?_; omega)))
    ·
      have hz1 : ((ls.length : Int) == 0) = false := beq_eq_false_iff_ne.2 hz
      have h1 : ¬ (ls.length : Int) - 1 < 0 := by omega
      have hw1 : IntKind.i64.wrap ((ls.length : Int) - 1) = (ls.length : Int) - 1 := wrapS (by omega)
      have elen : (ls.take (ls.length - 1)).length = ls.length - 1 := by rw [List.length_take]; omega
      have b1 : 1 ≤ (ls.length : Int) := by omega
      have b2 : (ls.length : Int) - 1 ≤ (cap0 : Int) := by omega
      have HV2 := Lib.hid fun (W : World) (l : Lys W a ls) (k : Acc w W) => HV.out a (ls.take (ls.length - 1)) (by rw [List.length_take]; omega) cap0 W (l.take _) k
      rw [elen] at HV2
      have HZ := Lib.hid hz
      clear hz elen
      go_wp2_with fail
      refine (HP.out _ _ _ (H.out _ (show Acc W0 _ by repeat' (first | (with_reducible first | assumption | exact Acc.refl _ | refine Acc.drew ?_ | refine Acc.drewN ?_ _ | refine Acc.alloc ?_ _ | refine Acc.setCell ?_ ?_ _) | (refine leB ?_; omega)))) (show Acc w _ by repeat' (first | (with_reducible first | assumption | exact Acc.refl _ | refine Acc.drew ?_ | refine Acc.drewN ?_ _ | refine Acc.alloc ?_ _ | refine Acc.setCell ?_ ?_ _) | (refine leB ?_; omega)))).mono ?_
      rintro e W3 ⟨vp, gp, rfl, hgp, hw, hb⟩
      obtain ⟨ap, capp, rfl⟩ := hw.open
      have kbW3 : Acc W0 W3 := Acc.call (show Acc W0 _ by repeat' (first | (with_reducible first | assumption | exact Acc.refl _ | refine Acc.drew ?_ | refine Acc.drewN ?_ _ | refine Acc.alloc ?_ _ | refine Acc.setCell ?_ ?_ _) | (refine leB ?_; omega))) hb
      have kaW3 : Acc w W3 := by
        refine Acc.call ?_ hb
        (repeat' (first | (with_reducible first | assumption | exact Acc.refl _ | refine Acc.drew ?_ | refine Acc.drewN ?_ _ | refine Acc.alloc ?_ _ | refine Acc.setCell ?_ ?_ _) | (refine leB ?_; omega)))
      clear hb
      have ksW3 : w.heap.size ≤ W3.heap.size := kaW3.size
      have kcW3 : Acc W3 W3 := Acc.refl _
      have Rp : RowKit.Hid (Wr gp W3 (.slice ap RS.length capp) RS) := Lib.hid hw
      clear hw
      go_wp2_with fail
      refine (valid_at hok.out (HV.out _ _ hr8 _ _ (Wr.lys' (Wr.keep Rp.out (show Acc W3 _ by repeat' (first | (with_reducible first | assumption | exact Acc.refl _ | refine Acc.drew ?_ | refine Acc.drewN ?_ _ | refine Acc.alloc ?_ _ | refine Acc.setCell ?_ ?_ _) | (refine leB ?_; omega))))) (show Acc w _ by repeat' (first | (with_reducible first | assumption | exact Acc.refl _ | refine Acc.drew ?_ | refine Acc.drewN ?_ _ | refine Acc.alloc ?_ _ | refine Acc.setCell ?_ ?_ _) | (refine leB ?_; omega))))).mono ?_
      rintro e W4 ⟨rfl, hb⟩
      have Rp : RowKit.Hid (Wr gp W4 (.slice ap RS.length capp) RS) := Lib.hid (Wr.keep Rp.out (Acc.call (show Acc W3 _ by repeat' (first | (with_reducible first | assumption | exact Acc.refl _ | refine Acc.drew ?_ | refine Acc.drewN ?_ _ | refine Acc.alloc ?_ _ | refine Acc.setCell ?_ ?_ _) | (refine leB ?_; omega))) hb))
      have kbW4 : Acc W0 W4 := Acc.call (show Acc W0 _ by repeat' (first | (with_reducible first | assumption | exact Acc.refl _ | refine Acc.drew ?_ | refine Acc.drewN ?_ _ | refine Acc.alloc ?_ _ | refine Acc.setCell ?_ ?_ _) | (refine leB ?_; omega))) hb
      have kaW4 : Acc w W4 := by
        refine Acc.call ?_ hb
        (repeat' (first | (with_reducible first | assumption | exact Acc.refl _ | refine Acc.drew ?_ | refine Acc.drewN ?_ _ | refine Acc.alloc ?_ _ | refine Acc.setCell ?_ ?_ _) | (refine leB ?_; omega)))
      clear hb
      have ksW4 : w.heap.size ≤ W4.heap.size := kaW4.size
      have kcW4 : Acc W4 W4 := Acc.refl _
      go_wp2_with fail
      refine (valid_at HI.out (HV2.out _ (H.out _ (show Acc W0 _ by repeat' (first | (with_reducible first | assumption | exact Acc.refl _ | refine Acc.drew ?_ | refine Acc.drewN ?_ _ | refine Acc.alloc ?_ _ | refine Acc.setCell ?_ ?_ _) | (refine leB ?_; omega)))) (show Acc w _ by repeat' (first | (with_reducible first | assumption | exact Acc.refl _ | refine Acc.drew ?_ | refine Acc.drewN ?_ _ | refine Acc.alloc ?_ _ | refine Acc.setCell ?_ ?_ _) | (refine leB ?_; omega))))).mono ?_
      rintro e W5 ⟨rfl, hb⟩
      have Rp : RowKit.Hid (Wr gp W5 (.slice ap RS.length capp) RS) := Lib.hid (Wr.keep Rp.out (Acc.call (show Acc W4 _ by repeat' (first | (with_reducible first | assumption | exact Acc.refl _ | refine Acc.drew ?_ | refine Acc.drewN ?_ _ | refine Acc.alloc ?_ _ | refine Acc.setCell ?_ ?_ _) | (refine leB ?_; omega))) hb))
      have kbW5 : Acc W0 W5 := Acc.call (show Acc W0 _ by repeat' (first | (with_reducible first | assumption | exact Acc.refl _ | refine Acc.drew ?_ | refine Acc.drewN ?_ _ | refine Acc.alloc ?_ _ | refine Acc.setCell ?_ ?_ _) | (refine leB ?_; omega))) hb
      have kaW5 : Acc w W5 := by
        refine Acc.call ?_ hb
        (repeat' (first | (with_reducible first | assumption | exact Acc.refl _ | refine Acc.drew ?_ | refine Acc.drewN ?_ _ | refine Acc.alloc ?_ _ | refine Acc.setCell ?_ ?_ _) | (refine leB ?_; omega)))
      clear hb
      have ksW5 : w.heap.size ≤ W5.heap.size := kaW5.size
      have kcW5 : Acc W5 W5 := Acc.refl _
      go_wp2_with fail
      go_ret
      refine ⟨by first | rfl | (simp [*]; done) | (simp [go_sem, *]; done), ?_⟩
      show Acc w _
      (repeat' (first | (with_reducible first | assumption | exact Acc.refl _ | refine Acc.drew ?_ | refine Acc.drewN ?_ _ | refine Acc.alloc ?_ _ | refine Acc.setCell ?_ ?_ _) | (refine leB ?_; omega)))
end Go.Proofs.YtkdkeacfifjjoaaDoor
