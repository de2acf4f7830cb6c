/-
  Likeness part by part, where both numbers are the same up to the bits of their NaN: it is true.
-/
import Derived.Test.YtbihlkienhbapabDoorFloatRun
namespace Go.Proofs.YtbihlkienhbapabDoor
open Go.ChangeShapes Go.WideShapes Go.ChangeAt Go.RowKit
set_option linter.unusedVariables false

theorem div_one {P : Program} {x r : Nat} (h : floatBits .quo .f64 one64 x = some r) (t : TypeId) (w : World) :
    (binOp .quo t (.float .f64 4607182418800017408) (.float .f64 x)).run P w = .ok (.float .f64 r) w := run_told h t w

set_option maxHeartbeats 1000000 in
theorem zeroAlike_any (x y : Nat) (w : World) (h : Same x y) :
    Calls Tryd.prog 76 #[.float .f64 x, .float .f64 y] w fun e w' => e = .returned (.bool true) ∧ w = w' := by
  cases hn : isN x with
  | true =>
    have hy : isN y = true := h.isN_eq ▸ hn
    have ox := order_nan_left hn x
    have oy := order_nan_left hy y
    clear hn hy h
    go_enter Tryd.func76, Tryd.ntmps76
    go_wp2
    go_ret
    exact ⟨rfl, rfl⟩
  | false =>
    have e : x = y := by
      rcases h with e | ⟨a, b⟩
      · exact e
      · rw [hn] at a; cases a
    subst e
    obtain ⟨r, hr, hrr⟩ := one_over hn
    have ox := order_refl hn
    have HR := Lib.hid hr
    clear hn h hr
    go_enter Tryd.func76, Tryd.ntmps76
    go_wp2_with (simp only [div_one HR.out])
    go_ret
    exact ⟨rfl, rfl⟩

set_option maxHeartbeats 1000000 in
theorem wideAlike_any (a b c d : Nat) (w : World) (h : Same a c) (k : Same b d) :
    Calls Tryd.prog 38 #[.complex .f64 a b, .complex .f64 c d] w fun e w' => e = .returned (.bool true) ∧ w = w' := by
  have H := Lib.hid h
  have K := Lib.hid k
  clear h k
  go_enter Tryd.func38, Tryd.ntmps38
  go_wp2_with fail
  refine (zeroAlike_any a c w H.out).mono ?_
  rintro e w1 ⟨rfl, rfl⟩
  go_wp2_with fail
  refine (zeroAlike_any b d w K.out).mono ?_
  rintro e w1 ⟨rfl, rfl⟩
  go_wp2_with fail
  go_ret
  exact ⟨rfl, rfl⟩
end Go.Proofs.YtbihlkienhbapabDoor
