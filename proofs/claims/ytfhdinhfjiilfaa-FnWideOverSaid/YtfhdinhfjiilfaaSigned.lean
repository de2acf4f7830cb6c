/-
  The law of both signs: what it calls, and its walk.
-/
import Derived.Test.YtfhdinhfjiilfaaAlike
namespace Go.Proofs.Ytfhdinhfjiilfaa
open Go.ChangeShapes Go.WideShapes Go.ChangeAt Go.RowKit
set_option linter.unusedVariables false

theorem fin_sub : finites.all (fun x => floatBits .sub .f64 x x == some 0 && floatBits .add .f64 x (Op.negFloat .f64 x) == some 0) = true := by decide +kernel
theorem fin_sub_self {x : Nat} (h : x ∈ finites) : floatBits .sub .f64 x x = some 0 ∧ floatBits .add .f64 x (Op.negFloat .f64 x) = some 0 := by
  have := List.all_eq_true.1 fin_sub x h
  simpa using this
theorem notfin_sub_self {x : Nat} (h : Drawn x) (hx : ¬ x ∈ finites) : floatBits .sub .f64 x x = none := by
  rcases h with h | rfl | h
  · exact fbits_nan_left h _
  · kernel_rfl
  · exact absurd h hx

/-- Sums and differences of wide numbers, up to the bits of NaN. -/
theorem run_csum_any {P : Program} (op : BinOp) (hop : op = .add ∨ op = .sub) (t : TypeId) (a b c d : Nat) (w : World) :
    ∃ re im n, (binOp op t (.complex .f64 a b) (.complex .f64 c d)).run P w = .ok (.complex .f64 re im) (w.drewN n) ∧ Same re (fop op a c) ∧ Same im (fop op b d) := by
  have hop' : op = .add ∨ op = .sub ∨ op = .mul ∨ op = .quo := by rcases hop with h | h <;> simp [h]
  obtain ⟨re, n, h1, s1⟩ := run_carith_any (P := P) op hop' a c w
  obtain ⟨im, m, h2, s2⟩ := run_carith_any (P := P) op hop' b d (w.drewN n)
  refine ⟨re, im, n + m, ?_, s1, s2⟩
  rw [World.drewN_drewN] at h2
  rcases hop with rfl | rfl <;> simp [binOp, Op.complexOp, h1, h2]

def DrewOne (w : World) (e : Ending) (w' : World) : Prop :=
  ∃ a b : Nat, e = .returned (.complex .f64 a b) ∧ Drawn a ∧ Drawn b ∧ Below w.heap.size w w'

set_option maxHeartbeats 1000000 in
theorem drawSigned_any (a : Option Addr) (len cap : Nat) (w : World) (h : Code8 w a len cap) :
    Calls Try.prog 15 #[.slice a len cap] w (DrewOne w) := by
  go_enter Try.func15, Try.ntmps15
  go_wp2_with fail
  refine (open_any a len cap w h).mono ?_
  rintro e w1 ⟨b, rfl, hb, bel, hr⟩
  have HR := Lib.hid hr
  clear hr h
  go_wp2_with fail
  refine (wide_any b 0 w1 HR.out (by omega)).mono ?_
  rintro e w2 ⟨x, y, q, rfl, hx, hy, ho, hq, hr⟩
  clear hr HR
  go_wp2_with fail
  go_ret
  exact ⟨x, y, rfl, hx, hy, bel.trans (ho.below bel.size hb)⟩

set_option maxHeartbeats 1000000 in
theorem signed_any (x y : Nat) (w : World) :
    Calls Try.prog 16 #[.complex .f64 x y] w fun e w' => e = .returned (.tuple #[.complex .f64 x y, .complex .f64 (Op.negFloat .f64 x) (Op.negFloat .f64 y)]) ∧ w = w' := by
  go_enter Try.func16, Try.ntmps16
  go_wp2
  go_ret2
  exact ⟨rfl, rfl⟩
set_option maxHeartbeats 1000000 in
theorem specSigned_any (x y : Nat) (w : World) :
    Calls Try.prog 17 #[.complex .f64 x y] w fun e w' => e = .returned (.tuple #[.complex .f64 x y, .complex .f64 (Op.negFloat .f64 x) (Op.negFloat .f64 y)]) ∧ w = w' := by
  go_enter Try.func17, Try.ntmps17
  go_wp2
  go_ret2
  exact ⟨rfl, rfl⟩

def Fine (w : World) (e : Ending) (w' : World) : Prop := e = .returned (.bool true) ∧ Below w.heap.size w w'

set_option maxHeartbeats 2000000 in
theorem signed_law (a : Option Addr) (len cap : Nat) (w : World) (h : Code8 w a len cap) :
    Calls Try.prog 5 #[.slice a len cap] w (Fine w) := by
  have hm := h.2.1
  have hl := h.1
  unfold maxLen at hm
  by_cases hlen : 1048576 < len
  · clear h
    have hlen' : (1048576 : Int) < (len : Int) := by omega
    go_enter Try.func5, Try.ntmps5
    go_wp2_with fail
    go_ret
    exact ⟨rfl, Below.refl _ _⟩
  have hlen' : ¬ (1048576 : Int) < (len : Int) := by omega
  go_enter Try.func5, Try.ntmps5
  go_wp2_with fail
  refine (drawSigned_any a len cap w h).mono ?_
  rintro e w1 ⟨x, y, rfl, hx, hy, bel⟩
  clear h
  go_wp2_with fail
  refine (signed_any x y w1).mono ?_
  rintro e w2 ⟨rfl, rfl⟩
  go_wp2_with fail
  refine (specSigned_any x y w1).mono ?_
  rintro e w2 ⟨rfl, rfl⟩
  go_wp2_with fail
  refine (wideAlike_any x y x y w1 (.refl _) (.refl _)).mono ?_
  rintro e w2 ⟨rfl, rfl⟩
  go_wp2_with fail
  refine (wideAlike_any (Op.negFloat .f64 x) (Op.negFloat .f64 y) _ _ w1 (.refl _) (.refl _)).mono ?_
  rintro e w2 ⟨rfl, rfl⟩
  go_wp2_with fail
  refine (signed_any (Op.negFloat .f64 x) (Op.negFloat .f64 y) w1).mono ?_
  rintro e w2 ⟨rfl, rfl⟩
  by_cases hf : x ∈ finites ∧ y ∈ finites
  · obtain ⟨f1, f2⟩ := hf
    have e1 := Lib.hid (fin_sub_self f1)
    have e2 := Lib.hid (fin_sub_self f2)
    have r1 : ∀ t w, (binOp .sub t (.complex .f64 x y) (.complex .f64 x y)).run Try.prog w = .ok (.complex .f64 0 0) w := fun t w =>
      run_complex_sum w .sub (.inr rfl) t .f64 x y x y 0 0 (by simp [cSumBits, e1.out.1, e2.out.1])
    have r2 : ∀ t w, (binOp .add t (.complex .f64 x y) (.complex .f64 (Op.negFloat .f64 x) (Op.negFloat .f64 y))).run Try.prog w = .ok (.complex .f64 0 0) w := fun t w =>
      run_complex_sum w .add (.inl rfl) t .f64 x y _ _ 0 0 (by simp [cSumBits, e1.out.2, e2.out.2])
    have R1 := Lib.hid r1
    have R2 := Lib.hid r2
    clear r1 r2
    have o0 : FloatKind.f64.format.order 0 0 = some .eq := by kernel_rfl
    go_wp2_with (simp only [R1.out])
    refine (wideAlike_any x y x y w1 (.refl _) (.refl _)).mono ?_
    rintro e w2 ⟨rfl, rfl⟩
    go_wp2_with fail
    refine (wideAlike_any (Op.negFloat .f64 (Op.negFloat .f64 x)) (Op.negFloat .f64 (Op.negFloat .f64 y)) x y w1 (.inl (neg_neg x)) (.inl (neg_neg y))).mono ?_
    rintro e w2 ⟨rfl, rfl⟩
    go_wp2_with (simp only [R2.out])
    go_ret
    exact ⟨rfl, bel⟩
  · obtain ⟨re, im, n, r1, s1, s2⟩ := run_csum_any (P := Try.prog) .sub (.inr rfl) 23 x y x y w1
    have oz : FloatKind.f64.format.order re 0 = none ∨ FloatKind.f64.format.order im 0 = none := by
      by_cases f1 : x ∈ finites
      · have f2 : ¬ y ∈ finites := fun f2 => hf ⟨f1, f2⟩
        refine .inr (order_nan_left ?_ 0)
        rw [s2.isN_eq]; unfold fop; rw [notfin_sub_self hy f2]; exact isN_nan0
      · refine .inl (order_nan_left ?_ 0)
        rw [s1.isN_eq]; unfold fop; rw [notfin_sub_self hx f1]; exact isN_nan0
    have R1 := Lib.hid r1
    clear r1 s1 s2 hf
    rcases oz with oz | oz
    all_goals
      go_wp2_with (simp only [R1.out])
      refine (wideAlike_any x y x y _ (.refl _) (.refl _)).mono ?_
      rintro e w2 ⟨rfl, rfl⟩
      go_wp2_with fail
      refine (wideAlike_any (Op.negFloat .f64 (Op.negFloat .f64 x)) (Op.negFloat .f64 (Op.negFloat .f64 y)) x y _ (.inl (neg_neg x)) (.inl (neg_neg y))).mono ?_
      rintro e w2 ⟨rfl, rfl⟩
      go_wp2_with fail
      go_ret
      exact ⟨rfl, bel.trans ⟨rfl, rfl, rfl, Nat.le_refl _, fun _ _ => rfl⟩⟩
end Go.Proofs.Ytfhdinhfjiilfaa
