/-
  The program's differences, quotients, orders and wide numbers of fractions, with errors.
-/
import Derived.Test.YtbihlkienhbapabDoorImplOps
import Derived.Test.YtbihlkienhbapabDoorSpecWide
import Derived.Deep.RegionWith
namespace Go.Proofs.YtbihlkienhbapabDoor
open Go.ChangeShapes Go.WideShapes Go.ChangeAt Go.RowKit
set_option linter.unusedVariables false

theorem okF_wrap {a b c : Int} (ha : i64B a) (hb : i64B b) : okF (RowKit.wrap64 (-a)) (RowKit.wrap64 (-b)) c = okF a b c := by
  unfold i64B at ha hb
  by_cases h1 : a = -9223372036854775808
  · subst h1
    have e : RowKit.wrap64 (- -9223372036854775808) = -9223372036854775808 := by unfold RowKit.wrap64; omega
    rw [e]
    have p : partB (-9223372036854775808) = false := by decide
    unfold okF
    rw [p]; rfl
  by_cases h2 : b = -9223372036854775808
  · subst h2
    have e : RowKit.wrap64 (- -9223372036854775808) = -9223372036854775808 := by unfold RowKit.wrap64; omega
    rw [e]
    have p : partB (-9223372036854775808) = false := by decide
    unfold okF
    rw [p, Bool.and_false, Bool.and_false]; rfl
  have e1 : RowKit.wrap64 (-a) = -a := by unfold RowKit.wrap64; omega
  have e2 : RowKit.wrap64 (-b) = -b := by unfold RowKit.wrap64; omega
  rw [e1, e2, okF_neg2]
theorem sumF_wrap {x y z a b c : Int} (ha : i64B a) (hb : i64B b) : sumF 1 x y z (RowKit.wrap64 (-a)) (RowKit.wrap64 (-b)) c = sumF (-1) x y z a b c := by
  rw [sumF_neg]
  cases hk : okF a b c with
  | false =>
    have h1 := okF_wrap (c := c) ha hb
    rw [hk] at h1
    have h2 := okF_neg2 a b c
    rw [hk] at h2
    unfold sumF
    rw [h1, h2]
    simp only [Bool.and_false, Bool.false_eq_true, if_false]
  | true =>
    obtain ⟨⟨a0, a1⟩, ⟨b0, b1⟩, -⟩ := okF_bd hk
    rw [show RowKit.wrap64 (-a) = -a by unfold RowKit.wrap64; omega, show RowKit.wrap64 (-b) = -b by unfold RowKit.wrap64; omega]
theorem wrap64_i64 (n : Int) : i64B (RowKit.wrap64 n) := by unfold i64B RowKit.wrap64; omega
end Go.Proofs.YtbihlkienhbapabDoor
