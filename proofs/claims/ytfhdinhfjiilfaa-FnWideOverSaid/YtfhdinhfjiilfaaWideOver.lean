/-
  The law of quotients of wide numbers: what it calls, and its walk.
-/
import Derived.Test.YtfhdinhfjiilfaaQuo
namespace Go.Proofs.Ytfhdinhfjiilfaa
open Go.ChangeShapes Go.WideShapes Go.ChangeAt Go.RowKit
set_option linter.unusedVariables false

theorem run_quo_drew {P : Program} {a b c d x y n : Nat} {w : World} (e : (Op.Complex.quotient a b c d).run P w = .ok (x, y) (w.drewN n)) (t : TypeId) :
    (binOp .quo t (.complex .f64 a b) (.complex .f64 c d)).run P w = .ok (.complex .f64 x y) (w.drewN n) := by
  simp [binOp, Op.complexOp, Op.Complex.conv, e]
theorem run_cquo_any {P : Program} {a b c d E F : Nat} (h : Gives P (Op.Complex.quotient a b c d) (Pair E F)) (t : TypeId) (w : World) :
    ∃ x y n, (binOp .quo t (.complex .f64 a b) (.complex .f64 c d)).run P w = .ok (.complex .f64 x y) (w.drewN n) ∧ Same x E ∧ Same y F := by
  obtain ⟨⟨x, y⟩, n, e, s1, s2⟩ := h w
  exact ⟨x, y, n, run_quo_drew e t, s1, s2⟩

def Bare (w w' : World) : Prop := ∀ B, Below B w w'
theorem bare_drewN (w : World) (n : Nat) : Bare w (w.drewN n) := fun _ => ⟨rfl, rfl, rfl, Nat.le_refl _, fun _ _ => rfl⟩
def Quotient (E F : Nat) (w : World) (e : Ending) (w' : World) : Prop :=
  ∃ x y, e = .returned (.complex .f64 x y) ∧ Same x E ∧ Same y F ∧ Bare w w'

set_option maxHeartbeats 1000000 in
theorem wideOver_any {a b c d E F : Nat} (h : Gives Try.prog (Op.Complex.quotient a b c d) (Pair E F)) (w : World) :
    Calls Try.prog 7 #[.complex .f64 a b, .complex .f64 c d] w (Quotient E F w) := by
  obtain ⟨x, y, n, r, s1, s2⟩ := run_cquo_any h 23 w
  have R := Lib.hid r
  clear r h
  go_enter Try.func7, Try.ntmps7
  go_wp2_with (simp only [R.out])
  go_ret
  exact ⟨x, y, rfl, s1, s2, bare_drewN w n⟩
set_option maxHeartbeats 1000000 in
theorem specOver_any {a b c d E F : Nat} (h : Gives Try.prog (Op.Complex.quotient a b c d) (Pair E F)) (w : World) :
    Calls Try.prog 8 #[.complex .f64 a b, .complex .f64 c d] w (Quotient E F w) := by
  obtain ⟨x, y, n, r, s1, s2⟩ := run_cquo_any h 23 w
  have R := Lib.hid r
  clear r h
  go_enter Try.func8, Try.ntmps8
  go_wp2_with (simp only [R.out])
  go_ret
  exact ⟨x, y, rfl, s1, s2, bare_drewN w n⟩

set_option maxHeartbeats 1000000 in
theorem drawOver_any (a : Option Addr) (len cap : Nat) (w : World) (h : Code8 w a len cap) :
    Calls Try.prog 6 #[.slice a len cap] w (DrewTwo w) := by
  go_enter Try.func6, Try.ntmps6
  go_wp2_with fail
  refine (wides_any a len cap w h).mono ?_
  rintro e w1 ⟨x, y, u, v, rfl, hx, hy, hu, hv, bel⟩
  go_wp2_with fail
  go_ret2
  exact ⟨x, y, u, v, rfl, hx, hy, hu, hv, bel⟩

/-- Over 1. -/
theorem fin_times0 : finites.all (fun x => fop .mul x 0 == 0 || fop .mul x 0 == 9223372036854775808) = true := by decide +kernel
theorem fin_over1 : finites.all (fun x => [0, 9223372036854775808].all fun z =>
    FloatKind.f64.format.order (fop .quo (fop .add x z) one64) x == some .eq && FloatKind.f64.format.order (fop .quo (fop .sub x z) one64) x == some .eq) = true := by decide +kernel
theorem one_first (a b : Nat) : firstE a b one64 0 = fop .quo (fop .add a (fop .mul b 0)) one64 ∧ firstF a b one64 0 = fop .quo (fop .sub b (fop .mul a 0)) one64 := by
  have h1 : absGe one64 0 = true := by decide +kernel
  have h2 : fop .quo 0 one64 = 0 := by decide +kernel
  have h3 : fop .add one64 (fop .mul 0 0) = one64 := by decide +kernel
  simp only [firstE, firstF, h1, if_true, h2, h3, and_self]
theorem not_nan_of_eq {x y : Nat} (h : FloatKind.f64.format.order x y = some .eq) : isN x = false := by
  cases e : isN x with
  | false => rfl
  | true => rw [order_nan_left e] at h; cases h
theorem over1 {x y E F : Nat} {P : Program} (hx : x ∈ finites) (hy : y ∈ finites)
    (hn : isN (firstE x y one64 0) = false → E = firstE x y one64 0 ∧ F = firstF x y one64 0) {u v : Nat} (hu : Same u E) (hv : Same v F) :
    FloatKind.f64.format.order u x = some .eq ∧ FloatKind.f64.format.order v y = some .eq := by
  obtain ⟨e1, e2⟩ := one_first x y
  rw [e1, e2] at hn
  have zx := List.all_eq_true.1 fin_times0 x hx
  have zy := List.all_eq_true.1 fin_times0 y hy
  simp only [Bool.or_eq_true, beq_iff_eq] at zx zy
  have kx := List.all_eq_true.1 (List.all_eq_true.1 fin_over1 x hx) (fop .mul y 0) (by rcases zy with h | h <;> simp [h])
  have ky := List.all_eq_true.1 (List.all_eq_true.1 fin_over1 y hy) (fop .mul x 0) (by rcases zx with h | h <;> simp [h])
  simp only [Bool.and_eq_true, beq_iff_eq] at kx ky
  obtain ⟨rfl, rfl⟩ := hn (not_nan_of_eq kx.1)
  have ux : u = fop .quo (fop .add x (fop .mul y 0)) one64 := by
    rcases hu with h | ⟨_, h⟩
    · exact h
    · rw [not_nan_of_eq kx.1] at h; cases h
  have vy : v = fop .quo (fop .sub y (fop .mul x 0)) one64 := by
    rcases hv with h | ⟨_, h⟩
    · exact h
    · rw [not_nan_of_eq ky.2] at h; cases h
  rw [ux, vy]
  exact ⟨kx.1, ky.2⟩

set_option maxHeartbeats 2000000 in
theorem wideOver_law (a : Option Addr) (len cap : Nat) (w : World) (h : Code8 w a len cap) :
    Calls Try.prog 3 #[.slice a len cap] w (Fine w) := by
  have hm := h.2.1
  have hl := h.1
  unfold maxLen at hm
  by_cases hlen : 1048576 < len
  · clear h
    have hlen' : (1048576 : Int) < (len : Int) := by omega
    go_enter Try.func3, Try.ntmps3
    go_wp2_with fail
    go_ret
    exact ⟨rfl, Below.refl _ _⟩
  have hlen' : ¬ (1048576 : Int) < (len : Int) := by omega
  go_enter Try.func3, Try.ntmps3
  go_wp2_with fail
  refine (drawOver_any a len cap w h).mono ?_
  rintro e w1 ⟨x, y, u, v, rfl, hx, hy, hu, hv, bel⟩
  clear h
  obtain ⟨E, F, g, _⟩ := gives_quotient (P := Try.prog) x y u v
  obtain ⟨E1, F1, g1, n1⟩ := gives_quotient (P := Try.prog) x y one64 0
  have G := Lib.hid g
  have G1 := Lib.hid g1
  have N1 := Lib.hid n1
  clear g g1 n1
  go_wp2_with fail
  refine (wideOver_any G.out w1).mono ?_
  rintro e w2 ⟨p, q, rfl, s1, s2, b2⟩
  go_wp2_with fail
  refine (specOver_any G.out _).mono ?_
  rintro e w3 ⟨p2, q2, rfl, s3, s4, b3⟩
  have t1 := Lib.hid (s1.trans s3.symm)
  have t2 := Lib.hid (s2.trans s4.symm)
  clear s1 s2 s3 s4
  go_wp2_with fail
  refine (wideAlike_any p q p2 q2 _ t1.out t2.out).mono ?_
  rintro e w4 ⟨rfl, rfl⟩
  go_wp2_with fail
  refine (wideOver_any G1.out _).mono ?_
  rintro e w4 ⟨p3, q3, rfl, s5, s6, b4⟩
  have bel4 : Below w.heap.size w w4 := bel.trans ((b2 _).trans ((b3 _).trans (b4 _)))
  clear b2 b3 b4
  by_cases hf : x ∈ finites ∧ y ∈ finites
  · obtain ⟨f1, f2⟩ := hf
    obtain ⟨o1, o2⟩ := over1 (P := Try.prog) f1 f2 N1.out s5 s6
    have e1 := Lib.hid (fin_sub_self f1)
    have e2 := Lib.hid (fin_sub_self f2)
    have r1 : ∀ t w, (binOp .sub t (.complex .f64 x y) (.complex .f64 x y)).run Try.prog w = .ok (.complex .f64 0 0) w := fun t w =>
      run_complex_sum w .sub (.inr rfl) t .f64 x y x y 0 0 (by simp [cSumBits, e1.out.1, e2.out.1])
    have R1 := Lib.hid r1
    clear r1 s5 s6
    have o0 : FloatKind.f64.format.order 0 0 = some .eq := by kernel_rfl
    go_wp2_with (simp only [R1.out])
    go_ret
    exact ⟨rfl, bel4⟩
  · clear s5 s6
    obtain ⟨re, im, n, r1, s1, s2⟩ := run_csum_any (P := Try.prog) .sub (.inr rfl) 23 x y x y w4
    have oz : FloatKind.f64.format.order re 0 = none ∨ FloatKind.f64.format.order im 0 = none := by
      by_cases f1 : x ∈ finites
      · have f2 : ¬ y ∈ finites := fun f2 => hf ⟨f1, f2⟩
        refine .inr (order_nan_left ?_ 0)
        rw [s2.isN_eq]; unfold fop; rw [notfin_sub_self hy f2]; exact isN_nan0
      · refine .inl (order_nan_left ?_ 0)
        rw [s1.isN_eq]; unfold fop; rw [notfin_sub_self hx f1]; exact isN_nan0
    have R1 := Lib.hid r1
    clear r1 s1 s2 hf
    rcases oz with oz | oz
    all_goals
      go_wp2_with (simp only [R1.out])
      go_ret
      exact ⟨rfl, bel4.trans ⟨rfl, rfl, rfl, Nat.le_refl _, fun _ _ => rfl⟩⟩
end Go.Proofs.Ytfhdinhfjiilfaa
