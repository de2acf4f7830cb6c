/-
  The exact law of FilmSame.
-/
import Derived.Test.YtdagcjohpmolpaaDoorLawFl1
import Derived.Test.YtdagcjohpmolpaaDoorLawFl2
import Derived.Test.YtdagcjohpmolpaaDoorImplF8
import Derived.Test.YtdagcjohpmolpaaDoorSpecF6
namespace Go.Proofs.YtdagcjohpmolpaaDoor
open Go.ChangeShapes Go.WideShapes Go.ChangeAt Go.RowKit
set_option linter.unusedVariables false

set_option linter.unusedSimpArgs false
set_option maxRecDepth 100000 in
set_option maxHeartbeats 16000000 in
theorem exactFilmSame (a : Option Addr) (ls : List L4) (cap : Nat) (b : Option Addr) (ms : List L4) (cap' : Nat) (w : World) (h : Lys w a ls) (hm : ls.length ≤ 9223372036854775807) (h' : Lys w b ms) (hm' : ms.length ≤ 9223372036854775807) (hl : Laid w) : Calls Tryd.prog 6 #[.slice a ls.length cap, .slice b ms.length cap'] w (Fine w) := by
  have HI := Lib.hid h.1
  have HI' := Lib.hid h'.1
  have H := Lib.hid h
  have H' := Lib.hid h'
  have HLD := Lib.hid fun W (k : Acc w W) => hl.acc k
  clear hl h h'
  by_cases hn : ls.length ≤ 1048576
  ·
    by_cases hn' : (ms.length : Int) ≤ 1048576 - ls.length
    ·
      have hn2 : ms.length ≤ 1048576 := by omega
      obtain ⟨kr, hkr⟩ : ∃ k, samM ls ms = k := ⟨_, rfl⟩
      have HS := Lib.hid fun a' b' c1 c2 W (l : Lys W a' ls) (l' : Lys W b' ms) => specFlSame_any a' b' ls ms c1 c2 W l l' hn hn2
      have HP := Lib.hid fun a' b' c1 c2 W (l : Lys W a' ls) (l' : Lys W b' ms) (k : Acc w W) => implFlSame_any a' b' ls ms c1 c2 W l l' hn hn2 (HLD.out W k)
      rw [hkr] at HS HP
      clear hkr
      go_enter Tryd.func6, Tryd.ntmps6
      go_wp2_with fail
      refine (szLayerS_yes a ls.length cap 1048576 (by omega) (by omega) _).mono ?_
      rintro e W1 ⟨rfl, hb⟩
      have kaW1 : Acc w W1 := by
        refine Acc.call ?_ hb
        (repeat' (first | (with_reducible first | assumption | exact Acc.refl _ | refine Acc.drew ?_ | refine Acc.drewN ?_ _ | refine Acc.alloc ?_ _ | refine Acc.setCell ?_ ?_ _) | (refine leB ?_; omega)))
      clear hb
      have hp : ¬ (1048576 - (ls.length : Int)) < 0 := by omega
      go_wp2_with fail
      refine (szLayerS_yes b ms.length cap' (1048576 - ls.length) (by omega) (by omega) _).mono ?_
      rintro e W2 ⟨rfl, hb⟩
      have kaW2 : Acc w W2 := by
        refine Acc.call ?_ hb
        (repeat' (first | (with_reducible first | assumption | exact Acc.refl _ | refine Acc.drew ?_ | refine Acc.drewN ?_ _ | refine Acc.alloc ?_ _ | refine Acc.setCell ?_ ?_ _) | (refine leB ?_; omega)))
      clear hb
      have hp2 : ¬ (1048576 - (ls.length : Int) - ms.length) < 0 := by omega
      go_wp2_with fail
      refine (toLayerS_any _ ls _ _ (H.out.keep (show Acc w _ by repeat' (first | (with_reducible first | assumption | exact Acc.refl _ | refine Acc.drew ?_ | refine Acc.drewN ?_ _ | refine Acc.alloc ?_ _ | refine Acc.setCell ?_ ?_ _) | (refine leB ?_; omega)))) hn).mono ?_
      rintro e W3 ⟨ga, hga, rfl, Bax, hb⟩
      have kaW3 : Acc w W3 := by
        refine Acc.call ?_ hb
        (repeat' (first | (with_reducible first | assumption | exact Acc.refl _ | refine Acc.drew ?_ | refine Acc.drewN ?_ _ | refine Acc.alloc ?_ _ | refine Acc.setCell ?_ ?_ _) | (refine leB ?_; omega)))
      clear hb
      have La : Lys W3 (some ⟨ga, 0, none⟩) ls := lys_of_blk HI.out Bax.blk
      go_wp2_with fail
      have La := Lib.hid La
      refine (toLayerS_any _ ms _ _ (H'.out.keep (show Acc w _ by repeat' (first | (with_reducible first | assumption | exact Acc.refl _ | refine Acc.drew ?_ | refine Acc.drewN ?_ _ | refine Acc.alloc ?_ _ | refine Acc.setCell ?_ ?_ _) | (refine leB ?_; omega)))) hn2).mono ?_
      rintro e W4 ⟨gb, hgb, rfl, Bbx, hb⟩
      have La2 : Lys W4 (some ⟨ga, 0, none⟩) ls := La.out.keep hb
      have kaW4 : Acc w W4 := by
        refine Acc.call ?_ hb
        (repeat' (first | (with_reducible first | assumption | exact Acc.refl _ | refine Acc.drew ?_ | refine Acc.drewN ?_ _ | refine Acc.alloc ?_ _ | refine Acc.setCell ?_ ?_ _) | (refine leB ?_; omega)))
      clear hb
      have Lb : Lys W4 (some ⟨gb, 0, none⟩) ms := lys_of_blk HI'.out Bbx.blk
      go_wp2_with fail
      refine (HS.out _ _ _ _ _ La2 Lb).mono ?_
      rintro e W5 ⟨rfl, hb⟩
      have kaW5 : Acc w W5 := by
        refine Acc.call ?_ hb
        (repeat' (first | (with_reducible first | assumption | exact Acc.refl _ | refine Acc.drew ?_ | refine Acc.drewN ?_ _ | refine Acc.alloc ?_ _ | refine Acc.setCell ?_ ?_ _) | (refine leB ?_; omega)))
      clear hb
      go_wp2_with fail
      refine (toLayerS_any _ ls _ _ (H.out.keep (show Acc w _ by repeat' (first | (with_reducible first | assumption | exact Acc.refl _ | refine Acc.drew ?_ | refine Acc.drewN ?_ _ | refine Acc.alloc ?_ _ | refine Acc.setCell ?_ ?_ _) | (refine leB ?_; omega)))) hn).mono ?_
      rintro e W6 ⟨gc, hgc, rfl, Bcx, hb⟩
      have kaW6 : Acc w W6 := by
        refine Acc.call ?_ hb
        (repeat' (first | (with_reducible first | assumption | exact Acc.refl _ | refine Acc.drew ?_ | refine Acc.drewN ?_ _ | refine Acc.alloc ?_ _ | refine Acc.setCell ?_ ?_ _) | (refine leB ?_; omega)))
      clear hb
      have Lc : Lys W6 (some ⟨gc, 0, none⟩) ls := lys_of_blk HI.out Bcx.blk
      go_wp2_with fail
      have Lc := Lib.hid Lc
      refine (toLayerS_any _ ms _ _ (H'.out.keep (show Acc w _ by repeat' (first | (with_reducible first | assumption | exact Acc.refl _ | refine Acc.drew ?_ | refine Acc.drewN ?_ _ | refine Acc.alloc ?_ _ | refine Acc.setCell ?_ ?_ _) | (refine leB ?_; omega)))) hn2).mono ?_
      rintro e W7 ⟨gd, hgd, rfl, Bdx, hb⟩
      have Lc2 : Lys W7 (some ⟨gc, 0, none⟩) ls := Lc.out.keep hb
      have kaW7 : Acc w W7 := by
        refine Acc.call ?_ hb
        (repeat' (first | (with_reducible first | assumption | exact Acc.refl _ | refine Acc.drew ?_ | refine Acc.drewN ?_ _ | refine Acc.alloc ?_ _ | refine Acc.setCell ?_ ?_ _) | (refine leB ?_; omega)))
      clear hb
      have Ld : Lys W7 (some ⟨gd, 0, none⟩) ms := lys_of_blk HI'.out Bdx.blk
      have LAW7 : Lys W7 a ls := H.out.keep kaW7
      have LBW7 : Lys W7 b ms := H'.out.keep kaW7
      have kaB := kaW7
      clear kaW7
      have kaW7 : Acc W7 W7 := Acc.refl _
      go_wp2_with fail
      refine (HP.out _ _ _ _ _ (Lc2.keep (show Acc W7 _ by repeat' (first | (with_reducible first | assumption | exact Acc.refl _ | refine Acc.drew ?_ | refine Acc.drewN ?_ _ | refine Acc.alloc ?_ _ | refine Acc.setCell ?_ ?_ _) | (refine leB ?_; omega)))) (Ld.keep (show Acc W7 _ by repeat' (first | (with_reducible first | assumption | exact Acc.refl _ | refine Acc.drew ?_ | refine Acc.drewN ?_ _ | refine Acc.alloc ?_ _ | refine Acc.setCell ?_ ?_ _) | (refine leB ?_; omega)))) (Acc.call kaB (show Acc W7 _ by repeat' (first | (with_reducible first | assumption | exact Acc.refl _ | refine Acc.drew ?_ | refine Acc.drewN ?_ _ | refine Acc.alloc ?_ _ | refine Acc.setCell ?_ ?_ _) | (refine leB ?_; omega))))).mono ?_
      rintro e W8 ⟨rfl, hb⟩
      have kaW8 : Acc W7 W8 := by
        refine Acc.call ?_ hb
        (repeat' (first | (with_reducible first | assumption | exact Acc.refl _ | refine Acc.drew ?_ | refine Acc.drewN ?_ _ | refine Acc.alloc ?_ _ | refine Acc.setCell ?_ ?_ _) | (refine leB ?_; omega)))
      clear hb
      go_wp2_with fail
      refine (toLayerS_any _ ls _ _ (LAW7.keep (show Acc W7 _ by repeat' (first | (with_reducible first | assumption | exact Acc.refl _ | refine Acc.drew ?_ | refine Acc.drewN ?_ _ | refine Acc.alloc ?_ _ | refine Acc.setCell ?_ ?_ _) | (refine leB ?_; omega)))) hn).mono ?_
      rintro e W9 ⟨ge, hge, rfl, Bex, hb⟩
      have kaW9 : Acc W7 W9 := by
        refine Acc.call ?_ hb
        (repeat' (first | (with_reducible first | assumption | exact Acc.refl _ | refine Acc.drew ?_ | refine Acc.drewN ?_ _ | refine Acc.alloc ?_ _ | refine Acc.setCell ?_ ?_ _) | (refine leB ?_; omega)))
      clear hb
      have Le : Lys W9 (some ⟨ge, 0, none⟩) ls := lys_of_blk HI.out Bex.blk
      go_wp2_with fail
      refine (eqLayerS_any _ _ ls _ _ _ (Lc2.keep kaW9) Le hn).mono ?_
      rintro e W10 ⟨rfl, hb⟩
      have kaW10 : Acc W7 W10 := by
        refine Acc.call ?_ hb
        (repeat' (first | (with_reducible first | assumption | exact Acc.refl _ | refine Acc.drew ?_ | refine Acc.drewN ?_ _ | refine Acc.alloc ?_ _ | refine Acc.setCell ?_ ?_ _) | (refine leB ?_; omega)))
      clear hb
      go_wp2_with fail
      refine (toLayerS_any _ ms _ _ (LBW7.keep (show Acc W7 _ by repeat' (first | (with_reducible first | assumption | exact Acc.refl _ | refine Acc.drew ?_ | refine Acc.drewN ?_ _ | refine Acc.alloc ?_ _ | refine Acc.setCell ?_ ?_ _) | (refine leB ?_; omega)))) hn2).mono ?_
      rintro e W11 ⟨gf, hgf, rfl, Bfx, hb⟩
      have kaW11 : Acc W7 W11 := by
        refine Acc.call ?_ hb
        (repeat' (first | (with_reducible first | assumption | exact Acc.refl _ | refine Acc.drew ?_ | refine Acc.drewN ?_ _ | refine Acc.alloc ?_ _ | refine Acc.setCell ?_ ?_ _) | (refine leB ?_; omega)))
      clear hb
      have Lf : Lys W11 (some ⟨gf, 0, none⟩) ms := lys_of_blk HI'.out Bfx.blk
      go_wp2_with fail
      refine (eqLayerS_any _ _ ms _ _ _ (Ld.keep kaW11) Lf hn2).mono ?_
      rintro e W12 ⟨rfl, hb⟩
      have kaW12 : Acc W7 W12 := by
        refine Acc.call ?_ hb
        (repeat' (first | (with_reducible first | assumption | exact Acc.refl _ | refine Acc.drew ?_ | refine Acc.drewN ?_ _ | refine Acc.alloc ?_ _ | refine Acc.setCell ?_ ?_ _) | (refine leB ?_; omega)))
      clear hb
      go_wp2_with fail
      go_ret
      refine ⟨rfl, ?_⟩
      show Acc w _
      refine Acc.call kaB (show Acc W7 _ from ?_)
      (repeat' (first | (with_reducible first | assumption | exact Acc.refl _ | refine Acc.drew ?_ | refine Acc.drewN ?_ _ | refine Acc.alloc ?_ _ | refine Acc.setCell ?_ ?_ _) | (refine leB ?_; omega)))
    ·
      go_enter Tryd.func6, Tryd.ntmps6
      go_wp2_with fail
      refine (szLayerS_yes a ls.length cap 1048576 (by omega) (by omega) _).mono ?_
      rintro e W1 ⟨rfl, hb⟩
      have kaW1 : Acc w W1 := by
        refine Acc.call ?_ hb
        (repeat' (first | (with_reducible first | assumption | exact Acc.refl _ | refine Acc.drew ?_ | refine Acc.drewN ?_ _ | refine Acc.alloc ?_ _ | refine Acc.setCell ?_ ?_ _) | (refine leB ?_; omega)))
      clear hb
      have hp : ¬ (1048576 - (ls.length : Int)) < 0 := by omega
      go_wp2_with fail
      refine (szLayerS_no b ms.length cap' (1048576 - ls.length) (by omega) (by omega) (by omega) _).mono ?_
      rintro e W2 ⟨rfl, hb⟩
      have kaW2 : Acc w W2 := by
        refine Acc.call ?_ hb
        (repeat' (first | (with_reducible first | assumption | exact Acc.refl _ | refine Acc.drew ?_ | refine Acc.drewN ?_ _ | refine Acc.alloc ?_ _ | refine Acc.setCell ?_ ?_ _) | (refine leB ?_; omega)))
      clear hb
      go_wp2_with fail
      go_ret
      refine ⟨rfl, ?_⟩
      show Acc w _
      (repeat' (first | (with_reducible first | assumption | exact Acc.refl _ | refine Acc.drew ?_ | refine Acc.drewN ?_ _ | refine Acc.alloc ?_ _ | refine Acc.setCell ?_ ?_ _) | (refine leB ?_; omega)))
  ·
    go_enter Tryd.func6, Tryd.ntmps6
    go_wp2_with fail
    refine (szLayerS_no a ls.length cap 1048576 (by omega) (by omega) (by omega) _).mono ?_
    rintro e W1 ⟨rfl, hb⟩
    have kaW1 : Acc w W1 := by
      refine Acc.call ?_ hb
      (repeat' (first | (with_reducible first | assumption | exact Acc.refl _ | refine Acc.drew ?_ | refine Acc.drewN ?_ _ | refine Acc.alloc ?_ _ | refine Acc.setCell ?_ ?_ _) | (refine leB ?_; omega)))
    clear hb
    go_wp2_with fail
    go_ret
    refine ⟨rfl, ?_⟩
    show Acc w _
    (repeat' (first | (with_reducible first | assumption | exact Acc.refl _ | refine Acc.drew ?_ | refine Acc.drewN ?_ _ | refine Acc.alloc ?_ _ | refine Acc.setCell ?_ ?_ _) | (refine leB ?_; omega)))
end Go.Proofs.YtdagcjohpmolpaaDoor
