/-
  The exact law of FibreOrder.
-/
import Derived.Test.YtkiggkmbgkonmaaGreatDoorBLawS
import Derived.Test.YtkiggkmbgkonmaaGreatDoorImplG10
import Derived.Test.YtkiggkmbgkonmaaGreatDoorSpecG5
namespace Go.Proofs.YtkiggkmbgkonmaaGreatDoor
open Go.ChangeShapes Go.WideShapes Go.ChangeAt Go.RowKit
set_option linter.unusedVariables false

set_option linter.unusedSimpArgs false
/-- A told number, open. -/
theorem gaveI_told (o : Option Int) : ∃ r : Int, ∃ k : Bool, ∀ P f ar w, Calls P f ar w (GaveI o w) → Calls P f ar w fun e w' => e = .returned (.tuple #[.int .i64 r, .bool k]) ∧ Below w.heap.size w w' := by
  cases o with
  | none => exact ⟨0, false, fun P f ar w c => c.mono fun e w' h => ⟨h.2.1 rfl, h.2.2⟩⟩
  | some v => exact ⟨v, true, fun P f ar w c => c.mono fun e w' h => ⟨h.1 _ rfl, h.2.2⟩⟩
set_option maxRecDepth 100000 in
set_option maxHeartbeats 16000000 in
theorem exactFibreOrder (a : Option Addr) (ls : List L4) (cap : Nat) (w : World) (h : Lys w a ls) (hm : ls.length ≤ 9223372036854775807) (hl : Laid w) : Calls Tryz.prog 5 #[.slice a ls.length cap] w (Fine w) := by
  have HI := Lib.hid h.1
  have H := Lib.hid h
  have HLD := Lib.hid fun W (k : Acc w W) => hl.acc k
  clear hl h
  by_cases hn : ls.length ≤ 1048576
  ·
    obtain ⟨r, kr, hv⟩ := gaveI_told (ordM ls)
    have HS := Lib.hid fun a' cap' W (l : Lys W a' ls) => hv _ _ _ W (specFbOrder_any a' ls cap' W l hn)
    have HP := Lib.hid fun a' cap' W (l : Lys W a' ls) (k : Acc w W) => hv _ _ _ W (implFbOrder_any a' ls cap' W l hn (HLD.out W k))
    clear hv
    go_enter Tryz.func5, Tryz.ntmps5
    go_wp2_with fail
    refine (szSectionS_yes a ls.length cap 1048576 (by omega) (by omega) _).mono ?_
    rintro e W1 ⟨rfl, hb⟩
    have kaW1 : Acc w W1 := by
      refine Acc.call ?_ hb
      (repeat' (first | (with_reducible first | assumption | exact Acc.refl _ | refine Acc.drew ?_ | refine Acc.alloc ?_ _ | refine Acc.setCell ?_ ?_ _) | (refine leB ?_; omega)))
    clear hb
    have hp : ¬ (1048576 - (ls.length : Int)) < 0 := by omega
    go_wp2_with fail
    refine (toSectionS_any _ ls _ _ (H.out.keep (show Acc w _ by repeat' (first | (with_reducible first | assumption | exact Acc.refl _ | refine Acc.drew ?_ | refine Acc.alloc ?_ _ | refine Acc.setCell ?_ ?_ _) | (refine leB ?_; omega)))) hn).mono ?_
    rintro e W2 ⟨ga, hga, rfl, Bax, hb⟩
    have kaW2 : Acc w W2 := by
      refine Acc.call ?_ hb
      (repeat' (first | (with_reducible first | assumption | exact Acc.refl _ | refine Acc.drew ?_ | refine Acc.alloc ?_ _ | refine Acc.setCell ?_ ?_ _) | (refine leB ?_; omega)))
    clear hb
    have La : Lys W2 (some ⟨ga, 0, none⟩) ls := lys_of_blk HI.out Bax.blk
    go_wp2_with fail
    refine (HS.out _ _ _ La).mono ?_
    rintro e W3 ⟨rfl, hb⟩
    have kaW3 : Acc w W3 := by
      refine Acc.call ?_ hb
      (repeat' (first | (with_reducible first | assumption | exact Acc.refl _ | refine Acc.drew ?_ | refine Acc.alloc ?_ _ | refine Acc.setCell ?_ ?_ _) | (refine leB ?_; omega)))
    clear hb
    go_wp2_with fail
    refine (toSectionS_any _ ls _ _ (H.out.keep (show Acc w _ by repeat' (first | (with_reducible first | assumption | exact Acc.refl _ | refine Acc.drew ?_ | refine Acc.alloc ?_ _ | refine Acc.setCell ?_ ?_ _) | (refine leB ?_; omega)))) hn).mono ?_
    rintro e W4 ⟨gb, hgb, rfl, Bbx, hb⟩
    have kaW4 : Acc w W4 := by
      refine Acc.call ?_ hb
      (repeat' (first | (with_reducible first | assumption | exact Acc.refl _ | refine Acc.drew ?_ | refine Acc.alloc ?_ _ | refine Acc.setCell ?_ ?_ _) | (refine leB ?_; omega)))
    clear hb
    have Lb : Lys W4 (some ⟨gb, 0, none⟩) ls := lys_of_blk HI.out Bbx.blk
    have LAW4 : Lys W4 a ls := H.out.keep kaW4
    have kaB := kaW4
    clear kaW4
    have kaW4 : Acc W4 W4 := Acc.refl _
    go_wp2_with fail
    refine (HP.out _ _ _ (Lb.keep (show Acc W4 _ by repeat' (first | (with_reducible first | assumption | exact Acc.refl _ | refine Acc.drew ?_ | refine Acc.alloc ?_ _ | refine Acc.setCell ?_ ?_ _) | (refine leB ?_; omega)))) (Acc.call kaB (show Acc W4 _ by repeat' (first | (with_reducible first | assumption | exact Acc.refl _ | refine Acc.drew ?_ | refine Acc.alloc ?_ _ | refine Acc.setCell ?_ ?_ _) | (refine leB ?_; omega))))).mono ?_
    rintro e W5 ⟨rfl, hb⟩
    have kaW5 : Acc W4 W5 := by
      refine Acc.call ?_ hb
      (repeat' (first | (with_reducible first | assumption | exact Acc.refl _ | refine Acc.drew ?_ | refine Acc.alloc ?_ _ | refine Acc.setCell ?_ ?_ _) | (refine leB ?_; omega)))
    clear hb
    go_wp2_with fail
    refine (toSectionS_any _ ls _ _ (LAW4.keep (show Acc W4 _ by repeat' (first | (with_reducible first | assumption | exact Acc.refl _ | refine Acc.drew ?_ | refine Acc.alloc ?_ _ | refine Acc.setCell ?_ ?_ _) | (refine leB ?_; omega)))) hn).mono ?_
    rintro e W6 ⟨gc, hgc, rfl, Bcx, hb⟩
    have kaW6 : Acc W4 W6 := by
      refine Acc.call ?_ hb
      (repeat' (first | (with_reducible first | assumption | exact Acc.refl _ | refine Acc.drew ?_ | refine Acc.alloc ?_ _ | refine Acc.setCell ?_ ?_ _) | (refine leB ?_; omega)))
    clear hb
    have Lc : Lys W6 (some ⟨gc, 0, none⟩) ls := lys_of_blk HI.out Bcx.blk
    go_wp2_with fail
    refine (eqSectionS_any _ _ ls _ _ _ (Lb.keep kaW6) Lc hn).mono ?_
    rintro e W7 ⟨rfl, hb⟩
    have kaW7 : Acc W4 W7 := by
      refine Acc.call ?_ hb
      (repeat' (first | (with_reducible first | assumption | exact Acc.refl _ | refine Acc.drew ?_ | refine Acc.alloc ?_ _ | refine Acc.setCell ?_ ?_ _) | (refine leB ?_; omega)))
    clear hb
    go_wp2_with fail
    go_ret
    refine ⟨rfl, ?_⟩
    show Acc w _
    refine Acc.call kaB (show Acc W4 _ from ?_)
    (repeat' (first | (with_reducible first | assumption | exact Acc.refl _ | refine Acc.drew ?_ | refine Acc.alloc ?_ _ | refine Acc.setCell ?_ ?_ _) | (refine leB ?_; omega)))
  ·
    go_enter Tryz.func5, Tryz.ntmps5
    go_wp2_with fail
    refine (szSectionS_no a ls.length cap 1048576 (by omega) (by omega) (by omega) _).mono ?_
    rintro e W1 ⟨rfl, hb⟩
    have kaW1 : Acc w W1 := by
      refine Acc.call ?_ hb
      (repeat' (first | (with_reducible first | assumption | exact Acc.refl _ | refine Acc.drew ?_ | refine Acc.alloc ?_ _ | refine Acc.setCell ?_ ?_ _) | (refine leB ?_; omega)))
    clear hb
    go_wp2_with fail
    go_ret
    refine ⟨rfl, ?_⟩
    show Acc w _
    (repeat' (first | (with_reducible first | assumption | exact Acc.refl _ | refine Acc.drew ?_ | refine Acc.alloc ?_ _ | refine Acc.setCell ?_ ?_ _) | (refine leB ?_; omega)))
end Go.Proofs.YtkiggkmbgkonmaaGreatDoor
