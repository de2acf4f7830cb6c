/-
  The law of powers: what it calls, and its walk.
-/
import Derived.Test.YtfhdinhfjiilfabSum
namespace Go.Proofs.Ytfhdinhfjiilfab
open Go.ChangeShapes Go.WideShapes Go.ChangeAt Go.RowKit
set_option linter.unusedVariables false

set_option maxHeartbeats 1000000 in
theorem drawPower_any (a : Option Addr) (len cap : Nat) (w : World) (h : Code8 w a len cap) :
    Calls Try.prog 19 #[.slice a len cap] w (DrewOne w) := by
  go_enter Try.func19, Try.ntmps19
  go_wp2_with fail
  refine (open_any a len cap w h).mono ?_
  rintro e w1 ⟨b, rfl, hb, bel, hr⟩
  have HR := Lib.hid hr
  clear hr h
  go_wp2_with fail
  refine (wide_any b 0 w1 HR.out (by omega)).mono ?_
  rintro e w2 ⟨x, y, q, rfl, hx, hy, ho, hq, hr⟩
  clear hr HR
  go_wp2_with fail
  go_ret
  exact ⟨x, y, rfl, hx, hy, bel.trans (ho.below bel.size hb)⟩

/-- The square of a drawn part is that of its opposite; sums of squares are not less than 0. -/
def values : List Nat := inf64 :: finites
theorem drawn_cases {x : Nat} (h : Drawn x) : isN x = true ∨ x ∈ values := by
  rcases h with h | rfl | h
  · exact .inl h
  · exact .inr (List.mem_cons_self ..)
  · exact .inr (List.mem_cons_of_mem _ h)
theorem square_neg : values.all (fun x => fop .mul (Op.negFloat .f64 x) (Op.negFloat .f64 x) == fop .mul x x) = true := by decide +kernel
theorem squares_sum : values.all (fun x => values.all fun y => !(FloatKind.f64.format.order (fop .add (fop .mul x x) (fop .mul y y)) 0 == some .lt)) = true := by decide +kernel
theorem fop_nan_left {op : BinOp} {x : Nat} (h : isN x = true) (y : Nat) : isN (fop op x y) = true := by unfold fop; rw [fbits_nan_left h]; exact isN_nan0
theorem fop_nan_right {op : BinOp} {x : Nat} (h : isN x = true) (y : Nat) : isN (fop op y x) = true := by unfold fop; rw [fbits_nan_right h]; exact isN_nan0
theorem isN_mod {x y : Nat} (h : x % Ieee.double.signWeight = y % Ieee.double.signWeight) : isN x = isN y := by
  unfold isN Ieee.Format.read
  simp only [h]
  split
  · rfl
  · split
    · rfl
    · split <;> rfl
theorem isN_neg (x : Nat) : isN (Op.negFloat .f64 x) = isN x := by
  refine isN_mod ?_
  have e : Ieee.double.signWeight = 2 ^ 63 := by decide +kernel
  show (x ^^^ 2 ^ 63) % _ = _
  rw [e, Nat.xor_mod_two_pow, Nat.mod_self, Nat.xor_zero]
theorem square_same {x : Nat} (h : Drawn x) : Same (fop .mul (Op.negFloat .f64 x) (Op.negFloat .f64 x)) (fop .mul x x) := by
  rcases drawn_cases h with h | h
  · exact .inr ⟨fop_nan_left ((isN_neg x).trans h) _, fop_nan_left h _⟩
  · have := List.all_eq_true.1 square_neg x h
    simp only [beq_iff_eq] at this
    exact .inl this
theorem power_not_less {x y p : Nat} (hx : Drawn x) (hy : Drawn y) (hp : Same p (fop .add (fop .mul x x) (fop .mul y y))) : (FloatKind.f64.format.order p 0 == some .lt) = false := by
  cases hn : isN p with
  | true => rw [order_nan_left hn]; rfl
  | false =>
    have e : p = fop .add (fop .mul x x) (fop .mul y y) := by
      rcases hp with h | ⟨h, _⟩
      · exact h
      · rw [hn] at h; cases h
    rcases drawn_cases hx with h | h
    · rw [e, fop_nan_left (fop_nan_left h _)] at hn; cases hn
    · rcases drawn_cases hy with k | k
      · rw [e, fop_nan_right (fop_nan_left k _)] at hn; cases hn
      · have := List.all_eq_true.1 (List.all_eq_true.1 squares_sum x h) y k
        rw [e]; simpa using this

def Powered (x y : Nat) (w : World) (e : Ending) (w' : World) : Prop :=
  ∃ p, e = .returned (.float .f64 p) ∧ Same p (fop .add (fop .mul x x) (fop .mul y y)) ∧ Bare w w'

set_option maxHeartbeats 1000000 in
theorem power_any (x y : Nat) (w : World) :
    Calls Try.prog 20 #[.complex .f64 x y] w (Powered x y w) := by
  go_enter Try.func20, Try.ntmps20
  go_wp2_with (simp only [run_mul, run_add])
  go_ret
  exact ⟨_, rfl, (fval_same ..).trans (fop_congr .add (fval_same ..) (fval_same ..)), Bare.trans (fworld_bare _ _ _ _) (Bare.trans (fworld_bare _ _ _ _) (fworld_bare _ _ _ _))⟩

set_option maxHeartbeats 1000000 in
theorem specPower_any (x y : Nat) (w : World) :
    Calls Try.prog 21 #[.complex .f64 x y] w (Powered x y w) := by
  go_enter Try.func21, Try.ntmps21
  go_wp2_with (simp only [run_mul, run_add])
  go_ret
  exact ⟨_, rfl, (fval_same ..).trans (fop_congr .add (fval_same ..) (fval_same ..)), Bare.trans (fworld_bare _ _ _ _) (Bare.trans (fworld_bare _ _ _ _) (fworld_bare _ _ _ _))⟩

set_option maxHeartbeats 1000000 in
theorem mirror_any (x y : Nat) (w : World) :
    Calls Try.prog 13 #[.complex .f64 x y] w fun e w' => e = .returned (.complex .f64 x (Op.negFloat .f64 y)) ∧ w = w' := by
  go_enter Try.func13, Try.ntmps13
  go_wp2
  go_ret
  exact ⟨rfl, rfl⟩

set_option maxHeartbeats 1000000 in
theorem signed_any (x y : Nat) (w : World) :
    Calls Try.prog 23 #[.complex .f64 x y] w fun e w' => e = .returned (.tuple #[.complex .f64 x y, .complex .f64 (Op.negFloat .f64 x) (Op.negFloat .f64 y)]) ∧ w = w' := by
  go_enter Try.func23, Try.ntmps23
  go_wp2
  go_ret2
  exact ⟨rfl, rfl⟩

set_option maxHeartbeats 1000000 in
theorem partAlike_any (x y : Nat) (w : World) (h : Same x y) :
    Calls Try.prog 24 #[.float .f64 x, .float .f64 y] w fun e w' => e = .returned (.bool true) ∧ w = w' := by
  cases hn : isN x with
  | true =>
    have hy : isN y = true := h.isN_eq ▸ hn
    have ox := order_nan_left hn
    have oy := order_nan_left hy
    clear hn hy h
    go_enter Try.func24, Try.ntmps24
    go_wp2
    go_ret
    exact ⟨rfl, rfl⟩
  | false =>
    have e : x = y := by
      rcases h with e | ⟨a, b⟩
      · exact e
      · rw [hn] at a; cases a
    subst e
    have ox := order_refl hn
    clear hn h
    go_enter Try.func24, Try.ntmps24
    go_wp2
    go_ret
    exact ⟨rfl, rfl⟩

set_option maxHeartbeats 2000000 in
theorem power_law (a : Option Addr) (len cap : Nat) (w : World) (h : Code8 w a len cap) :
    Calls Try.prog 5 #[.slice a len cap] w (Fine w) := by
  have hm := h.2.1
  have hl := h.1
  unfold maxLen at hm
  by_cases hlen : 1048576 < len
  · clear h
    have hlen' : (1048576 : Int) < (len : Int) := by omega
    go_enter Try.func5, Try.ntmps5
    go_wp2_with fail
    go_ret
    exact ⟨rfl, Below.refl _ _⟩
  have hlen' : ¬ (1048576 : Int) < (len : Int) := by omega
  go_enter Try.func5, Try.ntmps5
  go_wp2_with fail
  refine (drawPower_any a len cap w h).mono ?_
  rintro e w1 ⟨x, y, rfl, hx, hy, bel⟩
  clear h
  go_wp2_with fail
  refine (power_any x y w1).mono ?_
  rintro e w2 ⟨p, rfl, sp, b2⟩
  go_wp2_with fail
  refine (specPower_any x y w2).mono ?_
  rintro e w3 ⟨q, rfl, sq, b3⟩
  go_wp2_with fail
  refine (zeroAlike_any p q w3 (sp.trans sq.symm)).mono ?_
  rintro e w4 ⟨rfl, rfl⟩
  go_wp2_with fail
  refine (signed_any x y w3).mono ?_
  rintro e w4 ⟨rfl, rfl⟩
  go_wp2_with fail
  refine (mirror_any x y w3).mono ?_
  rintro e w4 ⟨rfl, rfl⟩
  go_wp2_with fail
  refine (power_any x (Op.negFloat .f64 y) w3).mono ?_
  rintro e w4 ⟨r, rfl, sr, b4⟩
  go_wp2_with fail
  refine (power_any x y w4).mono ?_
  rintro e w5 ⟨s, rfl, ss, b5⟩
  go_wp2_with fail
  refine (power_any (Op.negFloat .f64 x) (Op.negFloat .f64 y) w5).mono ?_
  rintro e w6 ⟨t, rfl, st, b6⟩
  have tr := sr.trans ((fop_congr .add (.refl _) (square_same hy)).trans sp.symm)
  have ts := ss.trans sp.symm
  have tt := st.trans ((fop_congr .add (square_same hx) (square_same hy)).trans sp.symm)
  have lt := power_not_less hx hy sp
  have bel6 : Below w.heap.size w w6 := bel.trans ((b2 _).trans ((b3 _).trans ((b4 _).trans ((b5 _).trans (b6 _)))))
  have TR := Lib.hid tr
  have TS := Lib.hid ts
  have TT := Lib.hid tt
  clear tr ts tt sp sq sr ss st b2 b3 b4 b5 b6 hx hy
  go_wp2_with fail
  refine (partAlike_any r p w6 TR.out).mono ?_
  rintro e w7 ⟨rfl, rfl⟩
  go_wp2_with fail
  refine (partAlike_any s p w6 TS.out).mono ?_
  rintro e w7 ⟨rfl, rfl⟩
  go_wp2_with fail
  refine (partAlike_any t p w6 TT.out).mono ?_
  rintro e w7 ⟨rfl, rfl⟩
  go_wp2_with fail
  go_ret
  exact ⟨rfl, bel6⟩
end Go.Proofs.Ytfhdinhfjiilfab
