/-
  The program's FracWide and FracSingle.
-/
import Derived.Test.YtbihlkienhbapabDoorImplRest
import Derived.Test.YtbihlkienhbapabDoorSpecSingle
namespace Go.Proofs.YtbihlkienhbapabDoor
open Go.ChangeShapes Go.WideShapes Go.ChangeAt Go.RowKit
set_option linter.unusedVariables false

set_option maxHeartbeats 2000000 in
theorem implWide_any (x y z : Int) (hx : i64B x) (hy : i64B y) (hz : i64B z) (w : World) (hl : Laid w) :
    Calls Tryd.prog 39 #[.agg #[.int .i64 x, .int .i64 y, .int .i64 z]] w (Wided x y z w) := by
  have HL := Lib.hid fun W (k : Acc w W) => hl.acc k
  clear hl
  cases hk : okF x y z with
  | false =>
    have HK := Lib.hid hk
    clear hk
    go_enter Tryd.func39, Tryd.ntmps39
    go_wp2_with fail
    refine (mwide_any x y z _ hx hy hz).mono ?_
    rintro e w1 ⟨-, h2, hb⟩
    obtain ⟨s, rfl⟩ := h2 HK.out
    clear h2
    obtain ⟨q00, q01, q02⟩ := keep3 hb (b := w.heap.size) (x := .int .i64 x) (y := .int .i64 y) (z := .int .i64 z) (by go_simp)
    have kb0 : w.heap.size < w1.heap.size := World.block_lt_of_cell? _ _ q00
    have haw1 : Acc w w1 := by
      refine Acc.call ?_ hb
      (repeat' (first | assumption | exact Acc.refl _ | refine Acc.drew ?_ | refine Acc.alloc ?_ _ | refine Acc.setCell ?_ (by omega) _))
    clear hb
    go_wp2_with fail
    refine (toldWide_err _ _ s _ (HL.out _ (by repeat' (first | assumption | exact Acc.refl _ | refine Acc.drew ?_ | refine Acc.alloc ?_ _ | refine Acc.setCell ?_ (by omega) _)))).mono ?_
    rintro e w2 ⟨rfl, hb⟩
    have haw2 : Acc w w2 := Acc.call haw1 hb
    clear hb
    go_wp2_with fail
    go_ret2
    exact ⟨fun h => (by rw [HK.out] at h; cases h), fun _ => rfl, haw2⟩
  | true =>
    have HK := Lib.hid hk
    clear hk
    go_enter Tryd.func39, Tryd.ntmps39
    go_wp2_with fail
    refine (mwide_any x y z _ hx hy hz).mono ?_
    rintro e w1 ⟨h1, -, hb⟩
    obtain ⟨p, q, rfl, s1, s2⟩ := h1 HK.out
    clear h1
    obtain ⟨q00, q01, q02⟩ := keep3 hb (b := w.heap.size) (x := .int .i64 x) (y := .int .i64 y) (z := .int .i64 z) (by go_simp)
    have kb0 : w.heap.size < w1.heap.size := World.block_lt_of_cell? _ _ q00
    have haw1 : Acc w w1 := by
      refine Acc.call ?_ hb
      (repeat' (first | assumption | exact Acc.refl _ | refine Acc.drew ?_ | refine Acc.alloc ?_ _ | refine Acc.setCell ?_ (by omega) _))
    clear hb
    have S1 := Lib.hid s1
    have S2 := Lib.hid s2
    clear s1 s2
    go_wp2_with fail
    refine (toldWide_ok p q _).mono ?_
    rintro e w2 ⟨rfl, hb⟩
    have haw2 : Acc w w2 := Acc.call haw1 hb
    clear hb
    go_wp2_with fail
    go_ret2
    exact ⟨fun _ => ⟨p, q, rfl, S1.out, S2.out⟩, fun h => (by rw [HK.out] at h; cases h), haw2⟩
end Go.Proofs.YtbihlkienhbapabDoor
