/-
  The law of unlike single numbers: what it calls, and its walk.
-/
import Derived.Test.YtfhdinhfjiilfabConv
namespace Go.Proofs.Ytfhdinhfjiilfab
open Go.ChangeShapes Go.WideShapes Go.ChangeAt Go.RowKit
set_option linter.unusedVariables false

def DrewSingles (w : World) (e : Ending) (w' : World) : Prop :=
  ∃ a b c d : Nat, e = .returned (.tuple #[.complex .f32 a b, .complex .f32 c d]) ∧ Single a ∧ Single b ∧ Single c ∧ Single d ∧ Below w.heap.size w w'

set_option maxHeartbeats 1000000 in
theorem singles_any (a : Option Addr) (len cap : Nat) (w : World) (h : Code8 w a len cap) :
    Calls Try.prog 35 #[.slice a len cap] w (DrewSingles w) := by
  go_enter Try.func35, Try.ntmps35
  go_wp2_with fail
  refine (wides_any a len cap w h).mono ?_
  rintro e w1 ⟨x, y, u, v, rfl, hx, hy, hu, hv, bel⟩
  clear h
  obtain ⟨p, q, n, r1, c1, c2⟩ := run_cconv (P := Try.prog) (s := .f64) (k := .f32) (by decide) (narrow_can hx) (narrow_can hy) 23 30 (by rw [Try.underlying23]; rfl) Try.underlying30 w1
  obtain ⟨p2, q2, n2, r2, c3, c4⟩ := run_cconv (P := Try.prog) (s := .f64) (k := .f32) (by decide) (narrow_can hu) (narrow_can hv) 23 30 (by rw [Try.underlying23]; rfl) Try.underlying30 (w1.drewN n)
  have s1 := single_of_conv hx c1
  have s2 := single_of_conv hy c2
  have s3 := single_of_conv hu c3
  have s4 := single_of_conv hv c4
  have R1 := Lib.hid r1
  have R2 := Lib.hid r2
  clear r1 r2 c1 c2 c3 c4 hx hy hu hv
  go_wp2_with (first | simp only [R1.out] | simp only [R2.out])
  go_ret2
  exact ⟨p, q, p2, q2, rfl, s1, s2, s3, s4, bel.trans (bare_drewN _ _ _)⟩

set_option maxHeartbeats 1000000 in
theorem drawUnlike_any (a : Option Addr) (len cap : Nat) (w : World) (h : Code8 w a len cap) :
    Calls Try.prog 30 #[.slice a len cap] w (DrewSingles w) := by
  go_enter Try.func30, Try.ntmps30
  go_wp2_with fail
  refine (singles_any a len cap w h).mono ?_
  rintro e w1 ⟨x, y, u, v, rfl, hx, hy, hu, hv, bel⟩
  go_wp2_with fail
  go_ret2
  exact ⟨x, y, u, v, rfl, hx, hy, hu, hv, bel⟩

/-- Both parts equal. -/
def eqB (k : FloatKind) (a b c d : Nat) : Bool := k.format.order a c == some .eq && k.format.order b d == some .eq
theorem eqB_comm (k : FloatKind) (a b c d : Nat) : eqB k a b c d = eqB k c d a b := by
  have key : ∀ a b c d, eqB k a b c d = true → eqB k c d a b = true := by
    intro a b c d h
    unfold eqB at h ⊢
    simp only [Bool.and_eq_true, beq_iff_eq] at h ⊢
    exact ⟨order_eq_symm h.1, order_eq_symm h.2⟩
  rw [Bool.eq_iff_iff]
  exact ⟨key _ _ _ _, key _ _ _ _⟩

set_option maxHeartbeats 1000000 in
theorem unlike_any (a b c d : Nat) (w : World) :
    Calls Try.prog 31 #[.complex .f32 a b, .complex .f32 c d] w fun e w' => e = .returned (.bool (!eqB .f32 a b c d)) ∧ w = w' := by
  go_enter Try.func31, Try.ntmps31
  go_wp2
  go_ret
  exact ⟨by simp [eqB], rfl⟩

set_option maxHeartbeats 1000000 in
theorem specUnlike_any (a b c d : Nat) (w : World) :
    Calls Try.prog 32 #[.complex .f32 a b, .complex .f32 c d] w fun e w' => e = .returned (.bool (!eqB .f32 a b c d)) ∧ w = w' := by
  go_enter Try.func32, Try.ntmps32
  go_wp2
  go_ret
  exact ⟨by simp [eqB], rfl⟩

set_option maxHeartbeats 1000000 in
theorem same_any (a b c d : Nat) (w : World) :
    Calls Try.prog 28 #[.complex .f64 a b, .complex .f64 c d] w fun e w' => e = .returned (.bool (eqB .f64 a b c d)) ∧ w = w' := by
  go_enter Try.func28, Try.ntmps28
  go_wp2
  go_ret
  exact ⟨rfl, rfl⟩

set_option maxHeartbeats 2000000 in
theorem unlike_law (a : Option Addr) (len cap : Nat) (w : World) (h : Code8 w a len cap) :
    Calls Try.prog 8 #[.slice a len cap] w (Fine w) := by
  have hm := h.2.1
  have hl := h.1
  unfold maxLen at hm
  by_cases hlen : 1048576 < len
  · clear h
    have hlen' : (1048576 : Int) < (len : Int) := by omega
    go_enter Try.func8, Try.ntmps8
    go_wp2_with fail
    go_ret
    exact ⟨rfl, Below.refl _ _⟩
  have hlen' : ¬ (1048576 : Int) < (len : Int) := by omega
  go_enter Try.func8, Try.ntmps8
  go_wp2_with fail
  refine (drawUnlike_any a len cap w h).mono ?_
  rintro e w1 ⟨x, y, u, v, rfl, hx, hy, hu, hv, bel⟩
  clear h
  go_wp2_with fail
  refine (unlike_any x y u v w1).mono ?_
  rintro e w2 ⟨rfl, rfl⟩
  go_wp2_with fail
  refine (specUnlike_any x y u v w1).mono ?_
  rintro e w2 ⟨rfl, rfl⟩
  cases hb : eqB .f32 x y u v with
  | true =>
    go_wp2_with fail
    go_ret
    exact ⟨rfl, bel⟩
  | false =>
    obtain ⟨p, q, n, r1, c1, c2⟩ := run_cconv (P := Try.prog) (s := .f32) (k := .f64) (by decide) (widen_can hx) (widen_can hy) 30 23 (by rw [Try.underlying30]; rfl) Try.underlying23 w1
    obtain ⟨p2, q2, n2, r2, c3, c4⟩ := run_cconv (P := Try.prog) (s := .f32) (k := .f64) (by decide) (widen_can hu) (widen_can hv) 30 23 (by rw [Try.underlying30]; rfl) Try.underlying23 (w1.drewN n)
    have h1 : eqB .f64 p q p2 q2 = false := by
      rw [← hb]; unfold eqB
      rw [order_widened hx hu c1 c3, order_widened hy hv c2 c4]
    have h2 : eqB .f32 u v x y = false := by rw [eqB_comm]; exact hb
    have R1 := Lib.hid r1
    have R2 := Lib.hid r2
    have H1 := Lib.hid h1
    have H2 := Lib.hid h2
    clear r1 r2 c1 c2 c3 c4 hx hy hu hv hb h1 h2
    go_wp2_with (first | simp only [R1.out] | simp only [R2.out])
    refine (same_any p q p2 q2 _).mono ?_
    rw [H1.out]
    rintro e w2 ⟨rfl, rfl⟩
    go_wp2_with fail
    refine (unlike_any u v x y _).mono ?_
    rw [H2.out]
    rintro e w2 ⟨rfl, rfl⟩
    go_wp2_with fail
    go_ret
    exact ⟨rfl, bel.trans (bare_drewN _ _ _)⟩
end Go.Proofs.Ytfhdinhfjiilfab
