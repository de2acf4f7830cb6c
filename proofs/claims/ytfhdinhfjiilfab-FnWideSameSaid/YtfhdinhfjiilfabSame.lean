/-
  The law of equal numbers: what it calls, and its walk.
-/
import Derived.Test.YtfhdinhfjiilfabSum
namespace Go.Proofs.Ytfhdinhfjiilfab
open Go.ChangeShapes Go.WideShapes Go.ChangeAt Go.RowKit
set_option linter.unusedVariables false

set_option maxHeartbeats 1000000 in
theorem drawSame_any (a : Option Addr) (len cap : Nat) (w : World) (h : Code8 w a len cap) :
    Calls Try.prog 27 #[.slice a len cap] w (DrewTwo w) := by
  go_enter Try.func27, Try.ntmps27
  go_wp2_with fail
  refine (wides_any a len cap w h).mono ?_
  rintro e w1 ⟨x, y, u, v, rfl, hx, hy, hu, hv, bel⟩
  go_wp2_with fail
  go_ret2
  exact ⟨x, y, u, v, rfl, hx, hy, hu, hv, bel⟩

/-- Both parts equal. -/
def eqB (k : FloatKind) (a b c d : Nat) : Bool := k.format.order a c == some .eq && k.format.order b d == some .eq
theorem eqB_symm {k : FloatKind} {a b c d : Nat} (h : eqB k a b c d = true) : eqB k c d a b = true := by
  unfold eqB at h ⊢
  simp only [Bool.and_eq_true, beq_iff_eq] at h ⊢
  exact ⟨order_eq_symm h.1, order_eq_symm h.2⟩
theorem eqB_self {a b c d : Nat} (h : eqB .f64 a b c d = true) : eqB .f64 a b a b = true := by
  unfold eqB at h ⊢
  simp only [Bool.and_eq_true, beq_iff_eq] at h ⊢
  exact ⟨order_refl (not_nan_of_eq h.1), order_refl (not_nan_of_eq h.2)⟩

set_option maxHeartbeats 1000000 in
theorem same_any (a b c d : Nat) (w : World) :
    Calls Try.prog 28 #[.complex .f64 a b, .complex .f64 c d] w fun e w' => e = .returned (.bool (eqB .f64 a b c d)) ∧ w = w' := by
  go_enter Try.func28, Try.ntmps28
  go_wp2
  go_ret
  exact ⟨rfl, rfl⟩

set_option maxHeartbeats 1000000 in
theorem specSame_any (a b c d : Nat) (w : World) :
    Calls Try.prog 29 #[.complex .f64 a b, .complex .f64 c d] w fun e w' => e = .returned (.bool (eqB .f64 a b c d)) ∧ w = w' := by
  go_enter Try.func29, Try.ntmps29
  go_wp2
  go_ret
  exact ⟨rfl, rfl⟩

set_option maxHeartbeats 2000000 in
theorem same_law (a : Option Addr) (len cap : Nat) (w : World) (h : Code8 w a len cap) :
    Calls Try.prog 7 #[.slice a len cap] w (Fine w) := by
  have hm := h.2.1
  have hl := h.1
  unfold maxLen at hm
  by_cases hlen : 1048576 < len
  · clear h
    have hlen' : (1048576 : Int) < (len : Int) := by omega
    go_enter Try.func7, Try.ntmps7
    go_wp2_with fail
    go_ret
    exact ⟨rfl, Below.refl _ _⟩
  have hlen' : ¬ (1048576 : Int) < (len : Int) := by omega
  go_enter Try.func7, Try.ntmps7
  go_wp2_with fail
  refine (drawSame_any a len cap w h).mono ?_
  rintro e w1 ⟨x, y, u, v, rfl, hx, hy, hu, hv, bel⟩
  clear h
  go_wp2_with fail
  refine (same_any x y u v w1).mono ?_
  rintro e w2 ⟨rfl, rfl⟩
  go_wp2_with fail
  refine (specSame_any x y u v w1).mono ?_
  rintro e w2 ⟨rfl, rfl⟩
  cases hb : eqB .f64 x y u v with
  | false =>
    go_wp2_with fail
    go_ret
    exact ⟨rfl, bel⟩
  | true =>
    have h1 := Lib.hid (eqB_symm hb)
    have h2 := Lib.hid (eqB_self hb)
    have h3 := Lib.hid (eqB_self (eqB_symm hb))
    clear hb
    go_wp2_with fail
    refine (same_any u v x y w1).mono ?_
    rw [h1.out]
    rintro e w2 ⟨rfl, rfl⟩
    go_wp2_with fail
    refine (same_any x y x y w1).mono ?_
    rw [h2.out]
    rintro e w2 ⟨rfl, rfl⟩
    go_wp2_with fail
    refine (same_any u v u v w1).mono ?_
    rw [h3.out]
    rintro e w2 ⟨rfl, rfl⟩
    go_wp2_with fail
    go_ret
    exact ⟨rfl, bel⟩
end Go.Proofs.Ytfhdinhfjiilfab
