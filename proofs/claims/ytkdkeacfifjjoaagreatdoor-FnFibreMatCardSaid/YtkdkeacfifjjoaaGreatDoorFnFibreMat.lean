/-
  The law FnFibreMat.
-/
import Derived.Test.YtkdkeacfifjjoaaGreatDoorBShort
import Derived.Test.YtkdkeacfifjjoaaGreatDoorBFibO
import Derived.Test.YtkdkeacfifjjoaaGreatDoorBFibP
import Derived.Test.YtkdkeacfifjjoaaGreatDoorSpecG2
import Derived.Test.YtkdkeacfifjjoaaGreatDoorBSec
import Derived.Test.YtkdkeacfifjjoaaGreatDoorMatTI
import Derived.Test.YtkdkeacfifjjoaaGreatDoorMatTIL
import Derived.Test.YtkdkeacfifjjoaaGreatDoorImplG19
import Derived.Test.YtkdkeacfifjjoaaGreatDoorBLet
namespace Go.Proofs.YtkdkeacfifjjoaaGreatDoor
open Go.ChangeShapes Go.WideShapes Go.ChangeAt Go.RowKit
set_option linter.unusedVariables false

set_option linter.unusedSimpArgs false
theorem Wr.lys' {g n cap : Nat} {w : World} {a : Option Addr} {ls : List L4} (h : Wr g w (.slice a n cap) ls) : Lys w a ls := by
  obtain ⟨a', cap', e, h⟩ := h.lys
  injection e with e1 e2 e3
  subst e1
  exact h
theorem Wr.open {g : Nat} {w : World} {v : Value} {ls : List L4} (h : Wr g w v ls) : ∃ a cap, v = .slice a ls.length cap := by
  obtain ⟨a, cap, e, -⟩ := h
  exact ⟨a, cap, e⟩
set_option maxRecDepth 100000 in
set_option maxHeartbeats 16000000 in
theorem fnFibreMat_law (w : World) (hl : Laid w) (s : Option Addr) (len cap : Nat) (h : Code8 w s len cap) :
    Calls Tryz.prog 3 #[.slice s len cap] w (Fine w) := by
  have hm := h.2.1
  have hl' := h.1
  unfold maxLen at hm
  have HL := Lib.hid fun W (k : Acc w W) => hl.acc k
  clear hl
  by_cases hlen : 1048576 < len
  · clear h
    have hlen' : (1048576 : Int) < (len : Int) := by omega
    go_enter Tryz.func3, Tryz.ntmps3
    go_wp2_with fail
    go_ret
    exact ⟨rfl, Below.refl _ _⟩
  have hlen' : ¬ (1048576 : Int) < (len : Int) := by omega
  go_enter Tryz.func3, Tryz.ntmps3
  go_wp2_with fail
  refine (drawFibreMat_any s len cap w h).mono ?_
  rintro e W0 ⟨a, cap0, ls, rfl, hly, hl7, hb⟩
  have kaW0 : Acc w W0 := hb
  have ksW0 := kaW0.size
  have hn : ls.length ≤ 1048576 := by omega
  have H := Lib.hid fun (W : World) (k : Below W0.heap.size W0 W) => hly.keep k
  clear hb h hly
  have kbW0 : Acc W0 W0 := Acc.refl _
  have HP := Lib.hid fun (a' : Option Addr) (c' : Nat) (W : World) (l : Lys W a' ls) (k : Acc w W) => implFbMat_any a' ls c' W l hn (HL.out W k)
  have HS := Lib.hid fun (W : World) (l : Lys W a ls) => specFbMat_any a ls cap0 W l hn
  obtain ⟨o, hx⟩ : ∃ x9, valM (fbM ls) = x9 := ⟨_, rfl⟩
  obtain ⟨po, hs⟩ : ∃ s9, (fbM ls).isSome = s9 := ⟨_, rfl⟩
  have Io := valM_i64 (fun r h => (fbM_okFb h).2.1) hx
  have Co := Lib.hid hx
  have Do := Lib.hid hs
  clear hx hs
  cases po with
  | false =>
    have qo := eqMSame o
    go_wp2_with fail
    refine (gaveM_at Co.out Do.out (HP.out _ _ _ (H.out _ (show Acc W0 _ by repeat' (first | (with_reducible first | assumption | exact Acc.refl _ | refine Acc.drew ?_ | refine Acc.drewN ?_ _ | refine Acc.alloc ?_ _ | refine Acc.setCell ?_ ?_ _) | (refine leB ?_; omega)))) (show Acc w _ by repeat' (first | (with_reducible first | assumption | exact Acc.refl _ | refine Acc.drew ?_ | refine Acc.drewN ?_ _ | refine Acc.alloc ?_ _ | refine Acc.setCell ?_ ?_ _) | (refine leB ?_; omega))))).mono ?_
    rintro e W1 ⟨rfl, hb⟩
    have kbW1 : Acc W0 W1 := Acc.call (show Acc W0 _ by repeat' (first | (with_reducible first | assumption | exact Acc.refl _ | refine Acc.drew ?_ | refine Acc.drewN ?_ _ | refine Acc.alloc ?_ _ | refine Acc.setCell ?_ ?_ _) | (refine leB ?_; omega))) hb
    have kaW1 : Acc w W1 := by
      refine Acc.call ?_ hb
      (repeat' (first | (with_reducible first | assumption | exact Acc.refl _ | refine Acc.drew ?_ | refine Acc.drewN ?_ _ | refine Acc.alloc ?_ _ | refine Acc.setCell ?_ ?_ _) | (refine leB ?_; omega)))
    clear hb
    have ksW1 : w.heap.size ≤ W1.heap.size := kaW1.size
    have kcW1 : Acc W1 W1 := Acc.refl _
    go_wp2_with fail
    refine (gaveM_at Co.out Do.out (HS.out _ (H.out _ (show Acc W0 _ by repeat' (first | (with_reducible first | assumption | exact Acc.refl _ | refine Acc.drew ?_ | refine Acc.drewN ?_ _ | refine Acc.alloc ?_ _ | refine Acc.setCell ?_ ?_ _) | (refine leB ?_; omega)))))).mono ?_
    rintro e W2 ⟨rfl, hb⟩
    have Bo : Blk W2 (W1.heap.size) [.int .i64 o.1.1, .int .i64 o.1.2.1, .int .i64 o.1.2.2, .int .i64 o.2.1.1, .int .i64 o.2.1.2.1, .int .i64 o.2.1.2.2, .int .i64 o.2.2.1.1, .int .i64 o.2.2.1.2.1, .int .i64 o.2.2.1.2.2, .int .i64 o.2.2.2.1, .int .i64 o.2.2.2.2.1, .int .i64 o.2.2.2.2.2] := Blk.keep hb (by repeat' (first | (with_reducible first | assumption | refine Blk.drew ?_ | refine Blk.drewN ?_ _ | apply Blk.set | (refine Blk.new ?_; focus (first | rfl | (simp; done))) | refine Blk.alloc ?_ _ | refine Blk.other ?_ ?_ _) | exact eqL rfl | (refine neB ?_; omega)))
    have co := Bo.cell
    have fo := Bo.free
    have lo_W2 := Bo.lt
    have kbW2 : Acc W0 W2 := Acc.call (show Acc W0 _ by repeat' (first | (with_reducible first | assumption | exact Acc.refl _ | refine Acc.drew ?_ | refine Acc.drewN ?_ _ | refine Acc.alloc ?_ _ | refine Acc.setCell ?_ ?_ _) | (refine leB ?_; omega))) hb
    have kaW2 : Acc w W2 := by
      refine Acc.call ?_ hb
      (repeat' (first | (with_reducible first | assumption | exact Acc.refl _ | refine Acc.drew ?_ | refine Acc.drewN ?_ _ | refine Acc.alloc ?_ _ | refine Acc.setCell ?_ ?_ _) | (refine leB ?_; omega)))
    clear hb
    have ksW2 : w.heap.size ≤ W2.heap.size := kaW2.size
    have kcW2 : Acc W2 W2 := Acc.refl _
    go_wp2_with fail
    go_ret
    refine ⟨by first | rfl | (simp [*]; done) | (simp [go_sem, *]; done), ?_⟩
    show Acc w _
    (repeat' (first | (with_reducible first | assumption | exact Acc.refl _ | refine Acc.drew ?_ | refine Acc.drewN ?_ _ | refine Acc.alloc ?_ _ | refine Acc.setCell ?_ ?_ _) | (refine leB ?_; omega)))
  | true =>
    have HO := Lib.hid ((someM Co.out Do.out))
    have qo := eqMSame o
    have hv := (fbM_okFb HO.out).1
    have HB := Lib.hid fun (a' : Option Addr) (c' : Nat) (W : World) (l : Lys W a' ls) (k : Acc w W) => implFbBack_any a' ls c' W l hn (HL.out W k)
    rw [hv, if_pos rfl] at HB
    have hle := Nat.le_of_eq (backM_len ls)
    have HONE := Lib.hid fun A B X (h : fbM ls = some A) (hb : fbM (backM ls) = some B) (hx : mulM B A = some X) => fb_one h hb hx
    obtain ⟨RS, hRS⟩ : ∃ RS, backM ls = RS := ⟨_, rfl⟩
    rw [hRS] at HB hle HONE
    clear hRS hv
    have hr8 : RS.length ≤ 1048576 := by omega
    have HQ := Lib.hid fun a' cap' (W : World) (l : Lys W a' RS) (k : Acc w W) => implFbMat_any a' RS cap' W l hr8 (HL.out W k)
    obtain ⟨ga, hx⟩ : ∃ x9, valM (adjM o) = x9 := ⟨_, rfl⟩
    obtain ⟨pa, hs⟩ : ∃ s9, (adjM o).isSome = s9 := ⟨_, rfl⟩
    have Iga := valM_i64 (fun r h => (adjM_ok h).2) hx
    have Cga := Lib.hid hx
    have Dga := Lib.hid hs
    clear hx hs
    obtain rfl : true = pa := (adjM_told (fbM_okFb HO.out).2.1).symm.trans Dga.out
    obtain ⟨gq, hx⟩ : ∃ x9, valM (mulM o ga) = x9 := ⟨_, rfl⟩
    obtain ⟨pq, hs⟩ : ∃ s9, (mulM o ga).isSome = s9 := ⟨_, rfl⟩
    have Igq := valM_i64 (fun r h => (mulM_ok h).2.2) hx
    have Cgq := Lib.hid hx
    have Dgq := Lib.hid hs
    clear hx hs
    obtain ⟨gm, hx⟩ : ∃ x9, valM (fbM RS) = x9 := ⟨_, rfl⟩
    obtain ⟨pm, hs⟩ : ∃ s9, (fbM RS).isSome = s9 := ⟨_, rfl⟩
    have Igm := valM_i64 (fun r h => (fbM_okFb h).2.1) hx
    have Cgm := Lib.hid hx
    have Dgm := Lib.hid hs
    clear hx hs
    obtain ⟨gx, hx⟩ : ∃ x9, valM (mulM gm o) = x9 := ⟨_, rfl⟩
    obtain ⟨px, hs⟩ : ∃ s9, (mulM gm o).isSome = s9 := ⟨_, rfl⟩
    have Igx := valM_i64 (fun r h => (mulM_ok h).2.2) hx
    have Cgx := Lib.hid hx
    have Dgx := Lib.hid hs
    clear hx hs
    go_wp2_with fail
    refine (gaveM_at Co.out Do.out (HP.out _ _ _ (H.out _ (show Acc W0 _ by repeat' (first | (with_reducible first | assumption | exact Acc.refl _ | refine Acc.drew ?_ | refine Acc.drewN ?_ _ | refine Acc.alloc ?_ _ | refine Acc.setCell ?_ ?_ _) | (refine leB ?_; omega)))) (show Acc w _ by repeat' (first | (with_reducible first | assumption | exact Acc.refl _ | refine Acc.drew ?_ | refine Acc.drewN ?_ _ | refine Acc.alloc ?_ _ | refine Acc.setCell ?_ ?_ _) | (refine leB ?_; omega))))).mono ?_
    rintro e W1 ⟨rfl, hb⟩
    have kbW1 : Acc W0 W1 := Acc.call (show Acc W0 _ by repeat' (first | (with_reducible first | assumption | exact Acc.refl _ | refine Acc.drew ?_ | refine Acc.drewN ?_ _ | refine Acc.alloc ?_ _ | refine Acc.setCell ?_ ?_ _) | (refine leB ?_; omega))) hb
    have kaW1 : Acc w W1 := by
      refine Acc.call ?_ hb
      (repeat' (first | (with_reducible first | assumption | exact Acc.refl _ | refine Acc.drew ?_ | refine Acc.drewN ?_ _ | refine Acc.alloc ?_ _ | refine Acc.setCell ?_ ?_ _) | (refine leB ?_; omega)))
    clear hb
    have ksW1 : w.heap.size ≤ W1.heap.size := kaW1.size
    have kcW1 : Acc W1 W1 := Acc.refl _
    go_wp2_with fail
    refine (gaveM_at Co.out Do.out (HS.out _ (H.out _ (show Acc W0 _ by repeat' (first | (with_reducible first | assumption | exact Acc.refl _ | refine Acc.drew ?_ | refine Acc.drewN ?_ _ | refine Acc.alloc ?_ _ | refine Acc.setCell ?_ ?_ _) | (refine leB ?_; omega)))))).mono ?_
    rintro e W2 ⟨rfl, hb⟩
    have Bo : Blk W2 (W1.heap.size) [.int .i64 o.1.1, .int .i64 o.1.2.1, .int .i64 o.1.2.2, .int .i64 o.2.1.1, .int .i64 o.2.1.2.1, .int .i64 o.2.1.2.2, .int .i64 o.2.2.1.1, .int .i64 o.2.2.1.2.1, .int .i64 o.2.2.1.2.2, .int .i64 o.2.2.2.1, .int .i64 o.2.2.2.2.1, .int .i64 o.2.2.2.2.2] := Blk.keep hb (by repeat' (first | (with_reducible first | assumption | refine Blk.drew ?_ | refine Blk.drewN ?_ _ | apply Blk.set | (refine Blk.new ?_; focus (first | rfl | (simp; done))) | refine Blk.alloc ?_ _ | refine Blk.other ?_ ?_ _) | exact eqL rfl | (refine neB ?_; omega)))
    have co := Bo.cell
    have fo := Bo.free
    have lo_W2 := Bo.lt
    have kbW2 : Acc W0 W2 := Acc.call (show Acc W0 _ by repeat' (first | (with_reducible first | assumption | exact Acc.refl _ | refine Acc.drew ?_ | refine Acc.drewN ?_ _ | refine Acc.alloc ?_ _ | refine Acc.setCell ?_ ?_ _) | (refine leB ?_; omega))) hb
    have kaW2 : Acc w W2 := by
      refine Acc.call ?_ hb
      (repeat' (first | (with_reducible first | assumption | exact Acc.refl _ | refine Acc.drew ?_ | refine Acc.drewN ?_ _ | refine Acc.alloc ?_ _ | refine Acc.setCell ?_ ?_ _) | (refine leB ?_; omega)))
    clear hb
    have ksW2 : w.heap.size ≤ W2.heap.size := kaW2.size
    have kcW2 : Acc W2 W2 := Acc.refl _
    go_wp2_with fail
    refine (gaveM_at Cga.out Dga.out (implMAdj_T o _ Io (HL.out _ (show Acc w _ by repeat' (first | (with_reducible first | assumption | exact Acc.refl _ | refine Acc.drew ?_ | refine Acc.drewN ?_ _ | refine Acc.alloc ?_ _ | refine Acc.setCell ?_ ?_ _) | (refine leB ?_; omega)))))).mono ?_
    rintro e W3 ⟨rfl, hb⟩
    have Bo : Blk W3 (W1.heap.size) [.int .i64 o.1.1, .int .i64 o.1.2.1, .int .i64 o.1.2.2, .int .i64 o.2.1.1, .int .i64 o.2.1.2.1, .int .i64 o.2.1.2.2, .int .i64 o.2.2.1.1, .int .i64 o.2.2.1.2.1, .int .i64 o.2.2.1.2.2, .int .i64 o.2.2.2.1, .int .i64 o.2.2.2.2.1, .int .i64 o.2.2.2.2.2] := Blk.keep hb (by repeat' (first | (with_reducible first | assumption | refine Blk.drew ?_ | refine Blk.drewN ?_ _ | apply Blk.set | (refine Blk.new ?_; focus (first | rfl | (simp; done))) | refine Blk.alloc ?_ _ | refine Blk.other ?_ ?_ _) | exact eqL rfl | (refine neB ?_; omega)))
    have co := Bo.cell
    have fo := Bo.free
    have lo_W3 := Bo.lt
    have kbW3 : Acc W0 W3 := Acc.call (show Acc W0 _ by repeat' (first | (with_reducible first | assumption | exact Acc.refl _ | refine Acc.drew ?_ | refine Acc.drewN ?_ _ | refine Acc.alloc ?_ _ | refine Acc.setCell ?_ ?_ _) | (refine leB ?_; omega))) hb
    have kaW3 : Acc w W3 := by
      refine Acc.call ?_ hb
      (repeat' (first | (with_reducible first | assumption | exact Acc.refl _ | refine Acc.drew ?_ | refine Acc.drewN ?_ _ | refine Acc.alloc ?_ _ | refine Acc.setCell ?_ ?_ _) | (refine leB ?_; omega)))
    clear hb
    have ksW3 : w.heap.size ≤ W3.heap.size := kaW3.size
    have kcW3 : Acc W3 W3 := Acc.refl _
    go_wp2_with fail
    refine (gaveM_at Cgq.out Dgq.out (implMTimes_T o ga _ Io Iga (HL.out _ (show Acc w _ by repeat' (first | (with_reducible first | assumption | exact Acc.refl _ | refine Acc.drew ?_ | refine Acc.drewN ?_ _ | refine Acc.alloc ?_ _ | refine Acc.setCell ?_ ?_ _) | (refine leB ?_; omega)))))).mono ?_
    rintro e W4 ⟨rfl, hb⟩
    have Bo : Blk W4 (W1.heap.size) [.int .i64 o.1.1, .int .i64 o.1.2.1, .int .i64 o.1.2.2, .int .i64 o.2.1.1, .int .i64 o.2.1.2.1, .int .i64 o.2.1.2.2, .int .i64 o.2.2.1.1, .int .i64 o.2.2.1.2.1, .int .i64 o.2.2.1.2.2, .int .i64 o.2.2.2.1, .int .i64 o.2.2.2.2.1, .int .i64 o.2.2.2.2.2] := Blk.keep hb (by repeat' (first | (with_reducible first | assumption | refine Blk.drew ?_ | refine Blk.drewN ?_ _ | apply Blk.set | (refine Blk.new ?_; focus (first | rfl | (simp; done))) | refine Blk.alloc ?_ _ | refine Blk.other ?_ ?_ _) | exact eqL rfl | (refine neB ?_; omega)))
    have Bga : Blk W4 (W3.heap.size) [.int .i64 ga.1.1, .int .i64 ga.1.2.1, .int .i64 ga.1.2.2, .int .i64 ga.2.1.1, .int .i64 ga.2.1.2.1, .int .i64 ga.2.1.2.2, .int .i64 ga.2.2.1.1, .int .i64 ga.2.2.1.2.1, .int .i64 ga.2.2.1.2.2, .int .i64 ga.2.2.2.1, .int .i64 ga.2.2.2.2.1, .int .i64 ga.2.2.2.2.2] := Blk.keep hb (by repeat' (first | (with_reducible first | assumption | refine Blk.drew ?_ | refine Blk.drewN ?_ _ | apply Blk.set | (refine Blk.new ?_; focus (first | rfl | (simp; done))) | refine Blk.alloc ?_ _ | refine Blk.other ?_ ?_ _) | exact eqL rfl | (refine neB ?_; omega)))
    have co := Bo.cell
    have fo := Bo.free
    have lo_W4 := Bo.lt
    have cga := Bga.cell
    have fga := Bga.free
    have lga_W4 := Bga.lt
    have kbW4 : Acc W0 W4 := Acc.call (show Acc W0 _ by repeat' (first | (with_reducible first | assumption | exact Acc.refl _ | refine Acc.drew ?_ | refine Acc.drewN ?_ _ | refine Acc.alloc ?_ _ | refine Acc.setCell ?_ ?_ _) | (refine leB ?_; omega))) hb
    have kaW4 : Acc w W4 := by
      refine Acc.call ?_ hb
      (repeat' (first | (with_reducible first | assumption | exact Acc.refl _ | refine Acc.drew ?_ | refine Acc.drewN ?_ _ | refine Acc.alloc ?_ _ | refine Acc.setCell ?_ ?_ _) | (refine leB ?_; omega)))
    clear hb
    have ksW4 : w.heap.size ≤ W4.heap.size := kaW4.size
    have kcW4 : Acc W4 W4 := Acc.refl _
    go_wp2_with fail
    refine (HB.out _ _ _ (H.out _ (show Acc W0 _ by repeat' (first | (with_reducible first | assumption | exact Acc.refl _ | refine Acc.drew ?_ | refine Acc.drewN ?_ _ | refine Acc.alloc ?_ _ | refine Acc.setCell ?_ ?_ _) | (refine leB ?_; omega)))) (show Acc w _ by repeat' (first | (with_reducible first | assumption | exact Acc.refl _ | refine Acc.drew ?_ | refine Acc.drewN ?_ _ | refine Acc.alloc ?_ _ | refine Acc.setCell ?_ ?_ _) | (refine leB ?_; omega)))).mono ?_
    rintro e W5 ⟨vp, gp, rfl, hgp, hw, hb⟩
    obtain ⟨ap, capp, rfl⟩ := hw.open
    have Bo : Blk W5 (W1.heap.size) [.int .i64 o.1.1, .int .i64 o.1.2.1, .int .i64 o.1.2.2, .int .i64 o.2.1.1, .int .i64 o.2.1.2.1, .int .i64 o.2.1.2.2, .int .i64 o.2.2.1.1, .int .i64 o.2.2.1.2.1, .int .i64 o.2.2.1.2.2, .int .i64 o.2.2.2.1, .int .i64 o.2.2.2.2.1, .int .i64 o.2.2.2.2.2] := Blk.keep hb (by repeat' (first | (with_reducible first | assumption | refine Blk.drew ?_ | refine Blk.drewN ?_ _ | apply Blk.set | (refine Blk.new ?_; focus (first | rfl | (simp; done))) | refine Blk.alloc ?_ _ | refine Blk.other ?_ ?_ _) | exact eqL rfl | (refine neB ?_; omega)))
    have Bga : Blk W5 (W3.heap.size) [.int .i64 ga.1.1, .int .i64 ga.1.2.1, .int .i64 ga.1.2.2, .int .i64 ga.2.1.1, .int .i64 ga.2.1.2.1, .int .i64 ga.2.1.2.2, .int .i64 ga.2.2.1.1, .int .i64 ga.2.2.1.2.1, .int .i64 ga.2.2.1.2.2, .int .i64 ga.2.2.2.1, .int .i64 ga.2.2.2.2.1, .int .i64 ga.2.2.2.2.2] := Blk.keep hb (by repeat' (first | (with_reducible first | assumption | refine Blk.drew ?_ | refine Blk.drewN ?_ _ | apply Blk.set | (refine Blk.new ?_; focus (first | rfl | (simp; done))) | refine Blk.alloc ?_ _ | refine Blk.other ?_ ?_ _) | exact eqL rfl | (refine neB ?_; omega)))
    have co := Bo.cell
    have fo := Bo.free
    have lo_W5 := Bo.lt
    have cga := Bga.cell
    have fga := Bga.free
    have lga_W5 := Bga.lt
    have kbW5 : Acc W0 W5 := Acc.call (show Acc W0 _ by repeat' (first | (with_reducible first | assumption | exact Acc.refl _ | refine Acc.drew ?_ | refine Acc.drewN ?_ _ | refine Acc.alloc ?_ _ | refine Acc.setCell ?_ ?_ _) | (refine leB ?_; omega))) hb
    have kaW5 : Acc w W5 := by
      refine Acc.call ?_ hb
      (repeat' (first | (with_reducible first | assumption | exact Acc.refl _ | refine Acc.drew ?_ | refine Acc.drewN ?_ _ | refine Acc.alloc ?_ _ | refine Acc.setCell ?_ ?_ _) | (refine leB ?_; omega)))
    clear hb
    have ksW5 : w.heap.size ≤ W5.heap.size := kaW5.size
    have kcW5 : Acc W5 W5 := Acc.refl _
    have Rp : RowKit.Hid (Wr gp W5 (.slice ap RS.length capp) RS) := Lib.hid hw
    clear hw
    go_wp2_with fail
    refine (gaveM_at Cgm.out Dgm.out (HQ.out _ _ _ (Wr.lys' (Wr.keep Rp.out (show Acc W5 _ by repeat' (first | (with_reducible first | assumption | exact Acc.refl _ | refine Acc.drew ?_ | refine Acc.drewN ?_ _ | refine Acc.alloc ?_ _ | refine Acc.setCell ?_ ?_ _) | (refine leB ?_; omega))))) (show Acc w _ by repeat' (first | (with_reducible first | assumption | exact Acc.refl _ | refine Acc.drew ?_ | refine Acc.drewN ?_ _ | refine Acc.alloc ?_ _ | refine Acc.setCell ?_ ?_ _) | (refine leB ?_; omega))))).mono ?_
    rintro e W6 ⟨rfl, hb⟩
    have Bo : Blk W6 (W1.heap.size) [.int .i64 o.1.1, .int .i64 o.1.2.1, .int .i64 o.1.2.2, .int .i64 o.2.1.1, .int .i64 o.2.1.2.1, .int .i64 o.2.1.2.2, .int .i64 o.2.2.1.1, .int .i64 o.2.2.1.2.1, .int .i64 o.2.2.1.2.2, .int .i64 o.2.2.2.1, .int .i64 o.2.2.2.2.1, .int .i64 o.2.2.2.2.2] := Blk.keep hb (by repeat' (first | (with_reducible first | assumption | refine Blk.drew ?_ | refine Blk.drewN ?_ _ | apply Blk.set | (refine Blk.new ?_; focus (first | rfl | (simp; done))) | refine Blk.alloc ?_ _ | refine Blk.other ?_ ?_ _) | exact eqL rfl | (refine neB ?_; omega)))
    have Bga : Blk W6 (W3.heap.size) [.int .i64 ga.1.1, .int .i64 ga.1.2.1, .int .i64 ga.1.2.2, .int .i64 ga.2.1.1, .int .i64 ga.2.1.2.1, .int .i64 ga.2.1.2.2, .int .i64 ga.2.2.1.1, .int .i64 ga.2.2.1.2.1, .int .i64 ga.2.2.1.2.2, .int .i64 ga.2.2.2.1, .int .i64 ga.2.2.2.2.1, .int .i64 ga.2.2.2.2.2] := Blk.keep hb (by repeat' (first | (with_reducible first | assumption | refine Blk.drew ?_ | refine Blk.drewN ?_ _ | apply Blk.set | (refine Blk.new ?_; focus (first | rfl | (simp; done))) | refine Blk.alloc ?_ _ | refine Blk.other ?_ ?_ _) | exact eqL rfl | (refine neB ?_; omega)))
    have co := Bo.cell
    have fo := Bo.free
    have lo_W6 := Bo.lt
    have cga := Bga.cell
    have fga := Bga.free
    have lga_W6 := Bga.lt
    have Rp : RowKit.Hid (Wr gp W6 (.slice ap RS.length capp) RS) := Lib.hid (Wr.keep Rp.out (Acc.call (show Acc W5 _ by repeat' (first | (with_reducible first | assumption | exact Acc.refl _ | refine Acc.drew ?_ | refine Acc.drewN ?_ _ | refine Acc.alloc ?_ _ | refine Acc.setCell ?_ ?_ _) | (refine leB ?_; omega))) hb))
    have kbW6 : Acc W0 W6 := Acc.call (show Acc W0 _ by repeat' (first | (with_reducible first | assumption | exact Acc.refl _ | refine Acc.drew ?_ | refine Acc.drewN ?_ _ | refine Acc.alloc ?_ _ | refine Acc.setCell ?_ ?_ _) | (refine leB ?_; omega))) hb
    have kaW6 : Acc w W6 := by
      refine Acc.call ?_ hb
      (repeat' (first | (with_reducible first | assumption | exact Acc.refl _ | refine Acc.drew ?_ | refine Acc.drewN ?_ _ | refine Acc.alloc ?_ _ | refine Acc.setCell ?_ ?_ _) | (refine leB ?_; omega)))
    clear hb
    have ksW6 : w.heap.size ≤ W6.heap.size := kaW6.size
    have kcW6 : Acc W6 W6 := Acc.refl _
    go_wp2_with fail
    refine (gaveM_at Cgx.out Dgx.out (implMTimes_T gm o _ Igm Io (HL.out _ (show Acc w _ by repeat' (first | (with_reducible first | assumption | exact Acc.refl _ | refine Acc.drew ?_ | refine Acc.drewN ?_ _ | refine Acc.alloc ?_ _ | refine Acc.setCell ?_ ?_ _) | (refine leB ?_; omega)))))).mono ?_
    rintro e W7 ⟨rfl, hb⟩
    have Bo : Blk W7 (W1.heap.size) [.int .i64 o.1.1, .int .i64 o.1.2.1, .int .i64 o.1.2.2, .int .i64 o.2.1.1, .int .i64 o.2.1.2.1, .int .i64 o.2.1.2.2, .int .i64 o.2.2.1.1, .int .i64 o.2.2.1.2.1, .int .i64 o.2.2.1.2.2, .int .i64 o.2.2.2.1, .int .i64 o.2.2.2.2.1, .int .i64 o.2.2.2.2.2] := Blk.keep hb (by repeat' (first | (with_reducible first | assumption | refine Blk.drew ?_ | refine Blk.drewN ?_ _ | apply Blk.set | (refine Blk.new ?_; focus (first | rfl | (simp; done))) | refine Blk.alloc ?_ _ | refine Blk.other ?_ ?_ _) | exact eqL rfl | (refine neB ?_; omega)))
    have Bga : Blk W7 (W3.heap.size) [.int .i64 ga.1.1, .int .i64 ga.1.2.1, .int .i64 ga.1.2.2, .int .i64 ga.2.1.1, .int .i64 ga.2.1.2.1, .int .i64 ga.2.1.2.2, .int .i64 ga.2.2.1.1, .int .i64 ga.2.2.1.2.1, .int .i64 ga.2.2.1.2.2, .int .i64 ga.2.2.2.1, .int .i64 ga.2.2.2.2.1, .int .i64 ga.2.2.2.2.2] := Blk.keep hb (by repeat' (first | (with_reducible first | assumption | refine Blk.drew ?_ | refine Blk.drewN ?_ _ | apply Blk.set | (refine Blk.new ?_; focus (first | rfl | (simp; done))) | refine Blk.alloc ?_ _ | refine Blk.other ?_ ?_ _) | exact eqL rfl | (refine neB ?_; omega)))
    have Bgm : Blk W7 (W6.heap.size) [.int .i64 gm.1.1, .int .i64 gm.1.2.1, .int .i64 gm.1.2.2, .int .i64 gm.2.1.1, .int .i64 gm.2.1.2.1, .int .i64 gm.2.1.2.2, .int .i64 gm.2.2.1.1, .int .i64 gm.2.2.1.2.1, .int .i64 gm.2.2.1.2.2, .int .i64 gm.2.2.2.1, .int .i64 gm.2.2.2.2.1, .int .i64 gm.2.2.2.2.2] := Blk.keep hb (by repeat' (first | (with_reducible first | assumption | refine Blk.drew ?_ | refine Blk.drewN ?_ _ | apply Blk.set | (refine Blk.new ?_; focus (first | rfl | (simp; done))) | refine Blk.alloc ?_ _ | refine Blk.other ?_ ?_ _) | exact eqL rfl | (refine neB ?_; omega)))
    have co := Bo.cell
    have fo := Bo.free
    have lo_W7 := Bo.lt
    have cga := Bga.cell
    have fga := Bga.free
    have lga_W7 := Bga.lt
    have cgm := Bgm.cell
    have fgm := Bgm.free
    have lgm_W7 := Bgm.lt
    have Rp : RowKit.Hid (Wr gp W7 (.slice ap RS.length capp) RS) := Lib.hid (Wr.keep Rp.out (Acc.call (show Acc W6 _ by repeat' (first | (with_reducible first | assumption | exact Acc.refl _ | refine Acc.drew ?_ | refine Acc.drewN ?_ _ | refine Acc.alloc ?_ _ | refine Acc.setCell ?_ ?_ _) | (refine leB ?_; omega))) hb))
    have kbW7 : Acc W0 W7 := Acc.call (show Acc W0 _ by repeat' (first | (with_reducible first | assumption | exact Acc.refl _ | refine Acc.drew ?_ | refine Acc.drewN ?_ _ | refine Acc.alloc ?_ _ | refine Acc.setCell ?_ ?_ _) | (refine leB ?_; omega))) hb
    have kaW7 : Acc w W7 := by
      refine Acc.call ?_ hb
      (repeat' (first | (with_reducible first | assumption | exact Acc.refl _ | refine Acc.drew ?_ | refine Acc.drewN ?_ _ | refine Acc.alloc ?_ _ | refine Acc.setCell ?_ ?_ _) | (refine leB ?_; omega)))
    clear hb
    have ksW7 : w.heap.size ≤ W7.heap.size := kaW7.size
    have kcW7 : Acc W7 W7 := Acc.refl _
    go_wp2_with fail
    refine (implRot10_any _).mono ?_
    rintro e W8 ⟨rfl, hb⟩
    have Bo : Blk W8 (W1.heap.size) [.int .i64 o.1.1, .int .i64 o.1.2.1, .int .i64 o.1.2.2, .int .i64 o.2.1.1, .int .i64 o.2.1.2.1, .int .i64 o.2.1.2.2, .int .i64 o.2.2.1.1, .int .i64 o.2.2.1.2.1, .int .i64 o.2.2.1.2.2, .int .i64 o.2.2.2.1, .int .i64 o.2.2.2.2.1, .int .i64 o.2.2.2.2.2] := Blk.keep hb (by repeat' (first | (with_reducible first | assumption | refine Blk.drew ?_ | refine Blk.drewN ?_ _ | apply Blk.set | (refine Blk.new ?_; focus (first | rfl | (simp; done))) | refine Blk.alloc ?_ _ | refine Blk.other ?_ ?_ _) | exact eqL rfl | (refine neB ?_; omega)))
    have Bga : Blk W8 (W3.heap.size) [.int .i64 ga.1.1, .int .i64 ga.1.2.1, .int .i64 ga.1.2.2, .int .i64 ga.2.1.1, .int .i64 ga.2.1.2.1, .int .i64 ga.2.1.2.2, .int .i64 ga.2.2.1.1, .int .i64 ga.2.2.1.2.1, .int .i64 ga.2.2.1.2.2, .int .i64 ga.2.2.2.1, .int .i64 ga.2.2.2.2.1, .int .i64 ga.2.2.2.2.2] := Blk.keep hb (by repeat' (first | (with_reducible first | assumption | refine Blk.drew ?_ | refine Blk.drewN ?_ _ | apply Blk.set | (refine Blk.new ?_; focus (first | rfl | (simp; done))) | refine Blk.alloc ?_ _ | refine Blk.other ?_ ?_ _) | exact eqL rfl | (refine neB ?_; omega)))
    have Bgm : Blk W8 (W6.heap.size) [.int .i64 gm.1.1, .int .i64 gm.1.2.1, .int .i64 gm.1.2.2, .int .i64 gm.2.1.1, .int .i64 gm.2.1.2.1, .int .i64 gm.2.1.2.2, .int .i64 gm.2.2.1.1, .int .i64 gm.2.2.1.2.1, .int .i64 gm.2.2.1.2.2, .int .i64 gm.2.2.2.1, .int .i64 gm.2.2.2.2.1, .int .i64 gm.2.2.2.2.2] := Blk.keep hb (by repeat' (first | (with_reducible first | assumption | refine Blk.drew ?_ | refine Blk.drewN ?_ _ | apply Blk.set | (refine Blk.new ?_; focus (first | rfl | (simp; done))) | refine Blk.alloc ?_ _ | refine Blk.other ?_ ?_ _) | exact eqL rfl | (refine neB ?_; omega)))
    have Bgx : Blk W8 (W7.heap.size) [.int .i64 gx.1.1, .int .i64 gx.1.2.1, .int .i64 gx.1.2.2, .int .i64 gx.2.1.1, .int .i64 gx.2.1.2.1, .int .i64 gx.2.1.2.2, .int .i64 gx.2.2.1.1, .int .i64 gx.2.2.1.2.1, .int .i64 gx.2.2.1.2.2, .int .i64 gx.2.2.2.1, .int .i64 gx.2.2.2.2.1, .int .i64 gx.2.2.2.2.2] := Blk.keep hb (by repeat' (first | (with_reducible first | assumption | refine Blk.drew ?_ | refine Blk.drewN ?_ _ | apply Blk.set | (refine Blk.new ?_; focus (first | rfl | (simp; done))) | refine Blk.alloc ?_ _ | refine Blk.other ?_ ?_ _) | exact eqL rfl | (refine neB ?_; omega)))
    have co := Bo.cell
    have fo := Bo.free
    have lo_W8 := Bo.lt
    have cga := Bga.cell
    have fga := Bga.free
    have lga_W8 := Bga.lt
    have cgm := Bgm.cell
    have fgm := Bgm.free
    have lgm_W8 := Bgm.lt
    have cgx := Bgx.cell
    have fgx := Bgx.free
    have lgx_W8 := Bgx.lt
    have Rp : RowKit.Hid (Wr gp W8 (.slice ap RS.length capp) RS) := Lib.hid (Wr.keep Rp.out (Acc.call (show Acc W7 _ by repeat' (first | (with_reducible first | assumption | exact Acc.refl _ | refine Acc.drew ?_ | refine Acc.drewN ?_ _ | refine Acc.alloc ?_ _ | refine Acc.setCell ?_ ?_ _) | (refine leB ?_; omega))) hb))
    have kbW8 : Acc W0 W8 := Acc.call (show Acc W0 _ by repeat' (first | (with_reducible first | assumption | exact Acc.refl _ | refine Acc.drew ?_ | refine Acc.drewN ?_ _ | refine Acc.alloc ?_ _ | refine Acc.setCell ?_ ?_ _) | (refine leB ?_; omega))) hb
    have kaW8 : Acc w W8 := by
      refine Acc.call ?_ hb
      (repeat' (first | (with_reducible first | assumption | exact Acc.refl _ | refine Acc.drew ?_ | refine Acc.drewN ?_ _ | refine Acc.alloc ?_ _ | refine Acc.setCell ?_ ?_ _) | (refine leB ?_; omega)))
    clear hb
    have ksW8 : w.heap.size ≤ W8.heap.size := kaW8.size
    have kcW8 : Acc W8 W8 := Acc.refl _
    cases pq with
    | false =>
      cases pm with
      | false =>
        go_wp2_with fail
        go_ret
        refine ⟨by first | rfl | (simp [*]; done) | (simp [go_sem, *]; done), ?_⟩
        show Acc w _
        (repeat' (first | (with_reducible first | assumption | exact Acc.refl _ | refine Acc.drew ?_ | refine Acc.drewN ?_ _ | refine Acc.alloc ?_ _ | refine Acc.setCell ?_ ?_ _) | (refine leB ?_; omega)))
      | true =>
        cases px with
        | false =>
          go_wp2_with fail
          go_ret
          refine ⟨by first | rfl | (simp [*]; done) | (simp [go_sem, *]; done), ?_⟩
          show Acc w _
          (repeat' (first | (with_reducible first | assumption | exact Acc.refl _ | refine Acc.drew ?_ | refine Acc.drewN ?_ _ | refine Acc.alloc ?_ _ | refine Acc.setCell ?_ ?_ _) | (refine leB ?_; omega)))
        | true =>
          have q1 := eqMLit (show gx = ((1, 0, 1), (0, 0, 1), (0, 0, 1), (1, 0, 1)) from HONE.out _ _ _ HO.out (someM Cgm.out Dgm.out) (someM Cgx.out Dgx.out))
          go_wp2_with fail
          go_ret
          refine ⟨by first | rfl | (simp [*]; done) | (simp [go_sem, *]; done), ?_⟩
          show Acc w _
          (repeat' (first | (with_reducible first | assumption | exact Acc.refl _ | refine Acc.drew ?_ | refine Acc.drewN ?_ _ | refine Acc.alloc ?_ _ | refine Acc.setCell ?_ ?_ _) | (refine leB ?_; omega)))
    | true =>
      have HLo := Lib.hid (fb_los HO.out (someM Cga.out Dga.out) (someM Cgq.out Dgq.out))
      cases pm with
      | false =>
        go_wp2_with fail
        refine (valid_at HLo.out (implLos_T o _ Io (HL.out _ (show Acc w _ by repeat' (first | (with_reducible first | assumption | exact Acc.refl _ | refine Acc.drew ?_ | refine Acc.drewN ?_ _ | refine Acc.alloc ?_ _ | refine Acc.setCell ?_ ?_ _) | (refine leB ?_; omega)))))).mono ?_
        rintro e W9 ⟨rfl, hb⟩
        have Bo : Blk W9 (W1.heap.size) [.int .i64 o.1.1, .int .i64 o.1.2.1, .int .i64 o.1.2.2, .int .i64 o.2.1.1, .int .i64 o.2.1.2.1, .int .i64 o.2.1.2.2, .int .i64 o.2.2.1.1, .int .i64 o.2.2.1.2.1, .int .i64 o.2.2.1.2.2, .int .i64 o.2.2.2.1, .int .i64 o.2.2.2.2.1, .int .i64 o.2.2.2.2.2] := Blk.keep hb (by repeat' (first | (with_reducible first | assumption | refine Blk.drew ?_ | refine Blk.drewN ?_ _ | apply Blk.set | (refine Blk.new ?_; focus (first | rfl | (simp; done))) | refine Blk.alloc ?_ _ | refine Blk.other ?_ ?_ _) | exact eqL rfl | (refine neB ?_; omega)))
        have Bga : Blk W9 (W3.heap.size) [.int .i64 ga.1.1, .int .i64 ga.1.2.1, .int .i64 ga.1.2.2, .int .i64 ga.2.1.1, .int .i64 ga.2.1.2.1, .int .i64 ga.2.1.2.2, .int .i64 ga.2.2.1.1, .int .i64 ga.2.2.1.2.1, .int .i64 ga.2.2.1.2.2, .int .i64 ga.2.2.2.1, .int .i64 ga.2.2.2.2.1, .int .i64 ga.2.2.2.2.2] := Blk.keep hb (by repeat' (first | (with_reducible first | assumption | refine Blk.drew ?_ | refine Blk.drewN ?_ _ | apply Blk.set | (refine Blk.new ?_; focus (first | rfl | (simp; done))) | refine Blk.alloc ?_ _ | refine Blk.other ?_ ?_ _) | exact eqL rfl | (refine neB ?_; omega)))
        have Bgm : Blk W9 (W6.heap.size) [.int .i64 gm.1.1, .int .i64 gm.1.2.1, .int .i64 gm.1.2.2, .int .i64 gm.2.1.1, .int .i64 gm.2.1.2.1, .int .i64 gm.2.1.2.2, .int .i64 gm.2.2.1.1, .int .i64 gm.2.2.1.2.1, .int .i64 gm.2.2.1.2.2, .int .i64 gm.2.2.2.1, .int .i64 gm.2.2.2.2.1, .int .i64 gm.2.2.2.2.2] := Blk.keep hb (by repeat' (first | (with_reducible first | assumption | refine Blk.drew ?_ | refine Blk.drewN ?_ _ | apply Blk.set | (refine Blk.new ?_; focus (first | rfl | (simp; done))) | refine Blk.alloc ?_ _ | refine Blk.other ?_ ?_ _) | exact eqL rfl | (refine neB ?_; omega)))
        have Bgx : Blk W9 (W7.heap.size) [.int .i64 gx.1.1, .int .i64 gx.1.2.1, .int .i64 gx.1.2.2, .int .i64 gx.2.1.1, .int .i64 gx.2.1.2.1, .int .i64 gx.2.1.2.2, .int .i64 gx.2.2.1.1, .int .i64 gx.2.2.1.2.1, .int .i64 gx.2.2.1.2.2, .int .i64 gx.2.2.2.1, .int .i64 gx.2.2.2.2.1, .int .i64 gx.2.2.2.2.2] := Blk.keep hb (by repeat' (first | (with_reducible first | assumption | refine Blk.drew ?_ | refine Blk.drewN ?_ _ | apply Blk.set | (refine Blk.new ?_; focus (first | rfl | (simp; done))) | refine Blk.alloc ?_ _ | refine Blk.other ?_ ?_ _) | exact eqL rfl | (refine neB ?_; omega)))
        have Bu : Blk W9 (W8.heap.size) [.int .i64 1, .int .i64 0, .int .i64 1, .int .i64 0, .int .i64 0, .int .i64 1, .int .i64 0, .int .i64 0, .int .i64 1, .int .i64 1, .int .i64 0, .int .i64 1] := Blk.keep hb (by repeat' (first | (with_reducible first | assumption | refine Blk.drew ?_ | refine Blk.drewN ?_ _ | apply Blk.set | (refine Blk.new ?_; focus (first | rfl | (simp; done))) | refine Blk.alloc ?_ _ | refine Blk.other ?_ ?_ _) | exact eqL rfl | (refine neB ?_; omega)))
        have co := Bo.cell
        have fo := Bo.free
        have lo_W9 := Bo.lt
        have cga := Bga.cell
        have fga := Bga.free
        have lga_W9 := Bga.lt
        have cgm := Bgm.cell
        have fgm := Bgm.free
        have lgm_W9 := Bgm.lt
        have cgx := Bgx.cell
        have fgx := Bgx.free
        have lgx_W9 := Bgx.lt
        have cu := Bu.cell
        have fu := Bu.free
        have lu_W9 := Bu.lt
        have Rp : RowKit.Hid (Wr gp W9 (.slice ap RS.length capp) RS) := Lib.hid (Wr.keep Rp.out (Acc.call (show Acc W8 _ by repeat' (first | (with_reducible first | assumption | exact Acc.refl _ | refine Acc.drew ?_ | refine Acc.drewN ?_ _ | refine Acc.alloc ?_ _ | refine Acc.setCell ?_ ?_ _) | (refine leB ?_; omega))) hb))
        have kbW9 : Acc W0 W9 := Acc.call (show Acc W0 _ by repeat' (first | (with_reducible first | assumption | exact Acc.refl _ | refine Acc.drew ?_ | refine Acc.drewN ?_ _ | refine Acc.alloc ?_ _ | refine Acc.setCell ?_ ?_ _) | (refine leB ?_; omega))) hb
        have kaW9 : Acc w W9 := by
          refine Acc.call ?_ hb
          (repeat' (first | (with_reducible first | assumption | exact Acc.refl _ | refine Acc.drew ?_ | refine Acc.drewN ?_ _ | refine Acc.alloc ?_ _ | refine Acc.setCell ?_ ?_ _) | (refine leB ?_; omega)))
        clear hb
        have ksW9 : w.heap.size ≤ W9.heap.size := kaW9.size
        have kcW9 : Acc W9 W9 := Acc.refl _
        go_wp2_with fail
        go_ret
        refine ⟨by first | rfl | (simp [*]; done) | (simp [go_sem, *]; done), ?_⟩
        show Acc w _
        (repeat' (first | (with_reducible first | assumption | exact Acc.refl _ | refine Acc.drew ?_ | refine Acc.drewN ?_ _ | refine Acc.alloc ?_ _ | refine Acc.setCell ?_ ?_ _) | (refine leB ?_; omega)))
      | true =>
        cases px with
        | false =>
          go_wp2_with fail
          refine (valid_at HLo.out (implLos_T o _ Io (HL.out _ (show Acc w _ by repeat' (first | (with_reducible first | assumption | exact Acc.refl _ | refine Acc.drew ?_ | refine Acc.drewN ?_ _ | refine Acc.alloc ?_ _ | refine Acc.setCell ?_ ?_ _) | (refine leB ?_; omega)))))).mono ?_
          rintro e W9 ⟨rfl, hb⟩
          have Bo : Blk W9 (W1.heap.size) [.int .i64 o.1.1, .int .i64 o.1.2.1, .int .i64 o.1.2.2, .int .i64 o.2.1.1, .int .i64 o.2.1.2.1, .int .i64 o.2.1.2.2, .int .i64 o.2.2.1.1, .int .i64 o.2.2.1.2.1, .int .i64 o.2.2.1.2.2, .int .i64 o.2.2.2.1, .int .i64 o.2.2.2.2.1, .int .i64 o.2.2.2.2.2] := Blk.keep hb (by repeat' (first | (with_reducible first | assumption | refine Blk.drew ?_ | refine Blk.drewN ?_ _ | apply Blk.set | (refine Blk.new ?_; focus (first | rfl | (simp; done))) | refine Blk.alloc ?_ _ | refine Blk.other ?_ ?_ _) | exact eqL rfl | (refine neB ?_; omega)))
          have Bga : Blk W9 (W3.heap.size) [.int .i64 ga.1.1, .int .i64 ga.1.2.1, .int .i64 ga.1.2.2, .int .i64 ga.2.1.1, .int .i64 ga.2.1.2.1, .int .i64 ga.2.1.2.2, .int .i64 ga.2.2.1.1, .int .i64 ga.2.2.1.2.1, .int .i64 ga.2.2.1.2.2, .int .i64 ga.2.2.2.1, .int .i64 ga.2.2.2.2.1, .int .i64 ga.2.2.2.2.2] := Blk.keep hb (by repeat' (first | (with_reducible first | assumption | refine Blk.drew ?_ | refine Blk.drewN ?_ _ | apply Blk.set | (refine Blk.new ?_; focus (first | rfl | (simp; done))) | refine Blk.alloc ?_ _ | refine Blk.other ?_ ?_ _) | exact eqL rfl | (refine neB ?_; omega)))
          have Bgm : Blk W9 (W6.heap.size) [.int .i64 gm.1.1, .int .i64 gm.1.2.1, .int .i64 gm.1.2.2, .int .i64 gm.2.1.1, .int .i64 gm.2.1.2.1, .int .i64 gm.2.1.2.2, .int .i64 gm.2.2.1.1, .int .i64 gm.2.2.1.2.1, .int .i64 gm.2.2.1.2.2, .int .i64 gm.2.2.2.1, .int .i64 gm.2.2.2.2.1, .int .i64 gm.2.2.2.2.2] := Blk.keep hb (by repeat' (first | (with_reducible first | assumption | refine Blk.drew ?_ | refine Blk.drewN ?_ _ | apply Blk.set | (refine Blk.new ?_; focus (first | rfl | (simp; done))) | refine Blk.alloc ?_ _ | refine Blk.other ?_ ?_ _) | exact eqL rfl | (refine neB ?_; omega)))
          have Bgx : Blk W9 (W7.heap.size) [.int .i64 gx.1.1, .int .i64 gx.1.2.1, .int .i64 gx.1.2.2, .int .i64 gx.2.1.1, .int .i64 gx.2.1.2.1, .int .i64 gx.2.1.2.2, .int .i64 gx.2.2.1.1, .int .i64 gx.2.2.1.2.1, .int .i64 gx.2.2.1.2.2, .int .i64 gx.2.2.2.1, .int .i64 gx.2.2.2.2.1, .int .i64 gx.2.2.2.2.2] := Blk.keep hb (by repeat' (first | (with_reducible first | assumption | refine Blk.drew ?_ | refine Blk.drewN ?_ _ | apply Blk.set | (refine Blk.new ?_; focus (first | rfl | (simp; done))) | refine Blk.alloc ?_ _ | refine Blk.other ?_ ?_ _) | exact eqL rfl | (refine neB ?_; omega)))
          have Bu : Blk W9 (W8.heap.size) [.int .i64 1, .int .i64 0, .int .i64 1, .int .i64 0, .int .i64 0, .int .i64 1, .int .i64 0, .int .i64 0, .int .i64 1, .int .i64 1, .int .i64 0, .int .i64 1] := Blk.keep hb (by repeat' (first | (with_reducible first | assumption | refine Blk.drew ?_ | refine Blk.drewN ?_ _ | apply Blk.set | (refine Blk.new ?_; focus (first | rfl | (simp; done))) | refine Blk.alloc ?_ _ | refine Blk.other ?_ ?_ _) | exact eqL rfl | (refine neB ?_; omega)))
          have co := Bo.cell
          have fo := Bo.free
          have lo_W9 := Bo.lt
          have cga := Bga.cell
          have fga := Bga.free
          have lga_W9 := Bga.lt
          have cgm := Bgm.cell
          have fgm := Bgm.free
          have lgm_W9 := Bgm.lt
          have cgx := Bgx.cell
          have fgx := Bgx.free
          have lgx_W9 := Bgx.lt
          have cu := Bu.cell
          have fu := Bu.free
          have lu_W9 := Bu.lt
          have Rp : RowKit.Hid (Wr gp W9 (.slice ap RS.length capp) RS) := Lib.hid (Wr.keep Rp.out (Acc.call (show Acc W8 _ by repeat' (first | (with_reducible first | assumption | exact Acc.refl _ | refine Acc.drew ?_ | refine Acc.drewN ?_ _ | refine Acc.alloc ?_ _ | refine Acc.setCell ?_ ?_ _) | (refine leB ?_; omega))) hb))
          have kbW9 : Acc W0 W9 := Acc.call (show Acc W0 _ by repeat' (first | (with_reducible first | assumption | exact Acc.refl _ | refine Acc.drew ?_ | refine Acc.drewN ?_ _ | refine Acc.alloc ?_ _ | refine Acc.setCell ?_ ?_ _) | (refine leB ?_; omega))) hb
          have kaW9 : Acc w W9 := by
            refine Acc.call ?_ hb
            (repeat' (first | (with_reducible first | assumption | exact Acc.refl _ | refine Acc.drew ?_ | refine Acc.drewN ?_ _ | refine Acc.alloc ?_ _ | refine Acc.setCell ?_ ?_ _) | (refine leB ?_; omega)))
          clear hb
          have ksW9 : w.heap.size ≤ W9.heap.size := kaW9.size
          have kcW9 : Acc W9 W9 := Acc.refl _
          go_wp2_with fail
          go_ret
          refine ⟨by first | rfl | (simp [*]; done) | (simp [go_sem, *]; done), ?_⟩
          show Acc w _
          (repeat' (first | (with_reducible first | assumption | exact Acc.refl _ | refine Acc.drew ?_ | refine Acc.drewN ?_ _ | refine Acc.alloc ?_ _ | refine Acc.setCell ?_ ?_ _) | (refine leB ?_; omega)))
        | true =>
          have q1 := eqMLit (show gx = ((1, 0, 1), (0, 0, 1), (0, 0, 1), (1, 0, 1)) from HONE.out _ _ _ HO.out (someM Cgm.out Dgm.out) (someM Cgx.out Dgx.out))
          go_wp2_with fail
          refine (valid_at HLo.out (implLos_T o _ Io (HL.out _ (show Acc w _ by repeat' (first | (with_reducible first | assumption | exact Acc.refl _ | refine Acc.drew ?_ | refine Acc.drewN ?_ _ | refine Acc.alloc ?_ _ | refine Acc.setCell ?_ ?_ _) | (refine leB ?_; omega)))))).mono ?_
          rintro e W9 ⟨rfl, hb⟩
          have Bo : Blk W9 (W1.heap.size) [.int .i64 o.1.1, .int .i64 o.1.2.1, .int .i64 o.1.2.2, .int .i64 o.2.1.1, .int .i64 o.2.1.2.1, .int .i64 o.2.1.2.2, .int .i64 o.2.2.1.1, .int .i64 o.2.2.1.2.1, .int .i64 o.2.2.1.2.2, .int .i64 o.2.2.2.1, .int .i64 o.2.2.2.2.1, .int .i64 o.2.2.2.2.2] := Blk.keep hb (by repeat' (first | (with_reducible first | assumption | refine Blk.drew ?_ | refine Blk.drewN ?_ _ | apply Blk.set | (refine Blk.new ?_; focus (first | rfl | (simp; done))) | refine Blk.alloc ?_ _ | refine Blk.other ?_ ?_ _) | exact eqL rfl | (refine neB ?_; omega)))
          have Bga : Blk W9 (W3.heap.size) [.int .i64 ga.1.1, .int .i64 ga.1.2.1, .int .i64 ga.1.2.2, .int .i64 ga.2.1.1, .int .i64 ga.2.1.2.1, .int .i64 ga.2.1.2.2, .int .i64 ga.2.2.1.1, .int .i64 ga.2.2.1.2.1, .int .i64 ga.2.2.1.2.2, .int .i64 ga.2.2.2.1, .int .i64 ga.2.2.2.2.1, .int .i64 ga.2.2.2.2.2] := Blk.keep hb (by repeat' (first | (with_reducible first | assumption | refine Blk.drew ?_ | refine Blk.drewN ?_ _ | apply Blk.set | (refine Blk.new ?_; focus (first | rfl | (simp; done))) | refine Blk.alloc ?_ _ | refine Blk.other ?_ ?_ _) | exact eqL rfl | (refine neB ?_; omega)))
          have Bgm : Blk W9 (W6.heap.size) [.int .i64 gm.1.1, .int .i64 gm.1.2.1, .int .i64 gm.1.2.2, .int .i64 gm.2.1.1, .int .i64 gm.2.1.2.1, .int .i64 gm.2.1.2.2, .int .i64 gm.2.2.1.1, .int .i64 gm.2.2.1.2.1, .int .i64 gm.2.2.1.2.2, .int .i64 gm.2.2.2.1, .int .i64 gm.2.2.2.2.1, .int .i64 gm.2.2.2.2.2] := Blk.keep hb (by repeat' (first | (with_reducible first | assumption | refine Blk.drew ?_ | refine Blk.drewN ?_ _ | apply Blk.set | (refine Blk.new ?_; focus (first | rfl | (simp; done))) | refine Blk.alloc ?_ _ | refine Blk.other ?_ ?_ _) | exact eqL rfl | (refine neB ?_; omega)))
          have Bgx : Blk W9 (W7.heap.size) [.int .i64 gx.1.1, .int .i64 gx.1.2.1, .int .i64 gx.1.2.2, .int .i64 gx.2.1.1, .int .i64 gx.2.1.2.1, .int .i64 gx.2.1.2.2, .int .i64 gx.2.2.1.1, .int .i64 gx.2.2.1.2.1, .int .i64 gx.2.2.1.2.2, .int .i64 gx.2.2.2.1, .int .i64 gx.2.2.2.2.1, .int .i64 gx.2.2.2.2.2] := Blk.keep hb (by repeat' (first | (with_reducible first | assumption | refine Blk.drew ?_ | refine Blk.drewN ?_ _ | apply Blk.set | (refine Blk.new ?_; focus (first | rfl | (simp; done))) | refine Blk.alloc ?_ _ | refine Blk.other ?_ ?_ _) | exact eqL rfl | (refine neB ?_; omega)))
          have Bu : Blk W9 (W8.heap.size) [.int .i64 1, .int .i64 0, .int .i64 1, .int .i64 0, .int .i64 0, .int .i64 1, .int .i64 0, .int .i64 0, .int .i64 1, .int .i64 1, .int .i64 0, .int .i64 1] := Blk.keep hb (by repeat' (first | (with_reducible first | assumption | refine Blk.drew ?_ | refine Blk.drewN ?_ _ | apply Blk.set | (refine Blk.new ?_; focus (first | rfl | (simp; done))) | refine Blk.alloc ?_ _ | refine Blk.other ?_ ?_ _) | exact eqL rfl | (refine neB ?_; omega)))
          have co := Bo.cell
          have fo := Bo.free
          have lo_W9 := Bo.lt
          have cga := Bga.cell
          have fga := Bga.free
          have lga_W9 := Bga.lt
          have cgm := Bgm.cell
          have fgm := Bgm.free
          have lgm_W9 := Bgm.lt
          have cgx := Bgx.cell
          have fgx := Bgx.free
          have lgx_W9 := Bgx.lt
          have cu := Bu.cell
          have fu := Bu.free
          have lu_W9 := Bu.lt
          have Rp : RowKit.Hid (Wr gp W9 (.slice ap RS.length capp) RS) := Lib.hid (Wr.keep Rp.out (Acc.call (show Acc W8 _ by repeat' (first | (with_reducible first | assumption | exact Acc.refl _ | refine Acc.drew ?_ | refine Acc.drewN ?_ _ | refine Acc.alloc ?_ _ | refine Acc.setCell ?_ ?_ _) | (refine leB ?_; omega))) hb))
          have kbW9 : Acc W0 W9 := Acc.call (show Acc W0 _ by repeat' (first | (with_reducible first | assumption | exact Acc.refl _ | refine Acc.drew ?_ | refine Acc.drewN ?_ _ | refine Acc.alloc ?_ _ | refine Acc.setCell ?_ ?_ _) | (refine leB ?_; omega))) hb
          have kaW9 : Acc w W9 := by
            refine Acc.call ?_ hb
            (repeat' (first | (with_reducible first | assumption | exact Acc.refl _ | refine Acc.drew ?_ | refine Acc.drewN ?_ _ | refine Acc.alloc ?_ _ | refine Acc.setCell ?_ ?_ _) | (refine leB ?_; omega)))
          clear hb
          have ksW9 : w.heap.size ≤ W9.heap.size := kaW9.size
          have kcW9 : Acc W9 W9 := Acc.refl _
          go_wp2_with fail
          go_ret
          refine ⟨by first | rfl | (simp [*]; done) | (simp [go_sem, *]; done), ?_⟩
          show Acc w _
          (repeat' (first | (with_reducible first | assumption | exact Acc.refl _ | refine Acc.drew ?_ | refine Acc.drewN ?_ _ | refine Acc.alloc ?_ _ | refine Acc.setCell ?_ ?_ _) | (refine leB ?_; omega)))
end Go.Proofs.YtkdkeacfifjjoaaGreatDoor
