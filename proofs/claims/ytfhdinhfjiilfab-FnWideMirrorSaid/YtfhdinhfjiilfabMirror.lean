/-
  The law of mirrors: what it calls, and its walk.
-/
import Derived.Test.YtfhdinhfjiilfabSum
namespace Go.Proofs.Ytfhdinhfjiilfab
open Go.ChangeShapes Go.WideShapes Go.ChangeAt Go.RowKit
set_option linter.unusedVariables false

set_option maxHeartbeats 1000000 in
theorem drawMirror_any (a : Option Addr) (len cap : Nat) (w : World) (h : Code8 w a len cap) :
    Calls Try.prog 25 #[.slice a len cap] w (DrewOne w) := by
  go_enter Try.func25, Try.ntmps25
  go_wp2_with fail
  refine (open_any a len cap w h).mono ?_
  rintro e w1 ⟨b, rfl, hb, bel, hr⟩
  have HR := Lib.hid hr
  clear hr h
  go_wp2_with fail
  refine (wide_any b 0 w1 HR.out (by omega)).mono ?_
  rintro e w2 ⟨x, y, q, rfl, hx, hy, ho, hq, hr⟩
  clear hr HR
  go_wp2_with fail
  go_ret
  exact ⟨x, y, rfl, hx, hy, bel.trans (ho.below bel.size hb)⟩

set_option maxHeartbeats 1000000 in
theorem mirror_any (x y : Nat) (w : World) :
    Calls Try.prog 13 #[.complex .f64 x y] w fun e w' => e = .returned (.complex .f64 x (Op.negFloat .f64 y)) ∧ w = w' := by
  go_enter Try.func13, Try.ntmps13
  go_wp2
  go_ret
  exact ⟨rfl, rfl⟩

set_option maxHeartbeats 1000000 in
theorem specMirror_any (x y : Nat) (w : World) :
    Calls Try.prog 26 #[.complex .f64 x y] w fun e w' => e = .returned (.complex .f64 x (Op.negFloat .f64 y)) ∧ w = w' := by
  go_enter Try.func26, Try.ntmps26
  go_wp2
  go_ret
  exact ⟨rfl, rfl⟩

set_option maxHeartbeats 2000000 in
theorem mirror_law (a : Option Addr) (len cap : Nat) (w : World) (h : Code8 w a len cap) :
    Calls Try.prog 6 #[.slice a len cap] w (Fine w) := by
  have hm := h.2.1
  have hl := h.1
  unfold maxLen at hm
  by_cases hlen : 1048576 < len
  · clear h
    have hlen' : (1048576 : Int) < (len : Int) := by omega
    go_enter Try.func6, Try.ntmps6
    go_wp2_with fail
    go_ret
    exact ⟨rfl, Below.refl _ _⟩
  have hlen' : ¬ (1048576 : Int) < (len : Int) := by omega
  go_enter Try.func6, Try.ntmps6
  go_wp2_with fail
  refine (drawMirror_any a len cap w h).mono ?_
  rintro e w1 ⟨x, y, rfl, hx, hy, bel⟩
  clear h
  go_wp2_with fail
  refine (mirror_any x y w1).mono ?_
  rintro e w2 ⟨rfl, rfl⟩
  go_wp2_with fail
  refine (specMirror_any x y w1).mono ?_
  rintro e w2 ⟨rfl, rfl⟩
  go_wp2_with fail
  refine (wideAlike_any x (Op.negFloat .f64 y) _ _ w1 (.refl _) (.refl _)).mono ?_
  rintro e w2 ⟨rfl, rfl⟩
  go_wp2_with fail
  refine (mirror_any x (Op.negFloat .f64 y) w1).mono ?_
  rintro e w2 ⟨rfl, rfl⟩
  go_wp2_with fail
  refine (wideAlike_any x (Op.negFloat .f64 (Op.negFloat .f64 y)) x y w1 (.refl _) (.inl (neg_neg y))).mono ?_
  rintro e w2 ⟨rfl, rfl⟩
  go_wp2_with fail
  refine (zeroAlike_any x x w1 (.refl _)).mono ?_
  rintro e w2 ⟨rfl, rfl⟩
  go_wp2_with fail
  go_ret
  exact ⟨rfl, bel⟩
end Go.Proofs.Ytfhdinhfjiilfab
