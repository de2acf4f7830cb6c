/-
  Opposite floats: products and sums of opposite words; both operations the same both ways. Plain facts, over no program.
-/
import Derived.Test.YtfhdinhfjiilfabSum
namespace Go.Proofs.Ytfhdinhfjiilfab
set_option linter.unusedVariables false

theorem double_weight : Ieee.double.signWeight = 2 ^ 63 := by decide +kernel

theorem neg_mod (x : Nat) : Op.negFloat .f64 x % 2 ^ 63 = x % 2 ^ 63 := by
  show (x ^^^ 2 ^ 63) % _ = _
  rw [Nat.xor_mod_two_pow, Nat.mod_self, Nat.xor_zero]
theorem neg_bit (x : Nat) : (Op.negFloat .f64 x / 2 ^ 63 % 2 == 1) = !(x / 2 ^ 63 % 2 == 1) := by
  show ((x ^^^ 2 ^ 63) / 2 ^ 63 % 2 == 1) = _
  have h1 : ∀ y : Nat, (y / 2 ^ 63 % 2 == 1) = y.testBit 63 := by
    intro y
    rw [Nat.testBit_eq_decide_div_mod_eq]
    by_cases h : y / 2 ^ 63 % 2 = 1 <;> simp [h]
  rw [h1, h1, Nat.testBit_xor, Nat.testBit_two_pow_self]
  simp

theorem read_neg (x : Nat) : Ieee.double.read (Op.negFloat .f64 x) = (Ieee.double.read x).opposite := by
  unfold Ieee.Format.read
  simp only [double_weight, neg_mod, neg_bit]
  split
  · rfl
  · split
    · rfl
    · split <;> rfl

theorem word_neg {s : Bool} {r : Nat} (h : r < 2 ^ 63) : Op.negFloat .f64 (Ieee.double.word s r) = Ieee.double.word (!s) r := by
  show Ieee.double.word s r ^^^ 2 ^ 63 = _
  unfold Ieee.Format.word
  rw [double_weight]
  have key : r ^^^ 2 ^ 63 = 2 ^ 63 + r := by
    have := Nat.two_pow_add_eq_or_of_lt h 1
    rw [Nat.mul_one] at this
    rw [this]
    apply Nat.eq_of_testBit_eq
    intro i
    rw [Nat.testBit_xor, Nat.testBit_or]
    by_cases hi : i < 63
    · rw [Nat.testBit_two_pow_of_ne (by omega)]; simp
    · have : r.testBit i = false := Nat.testBit_lt_two_pow (Nat.lt_of_lt_of_le h (Nat.pow_le_pow_right (by decide) (by omega)))
      rw [this]; simp
  cases s
  · simpa using key
  · simp only [if_true, Bool.not_true, Bool.false_eq_true, if_false]
    rw [← key, Nat.xor_assoc, Nat.xor_self, Nat.xor_zero]

theorem inf_lt : Ieee.double.infRung < 2 ^ 63 := by decide +kernel

theorem write_opposite {d : Ieee.Datum} (h : d.isNaN = false) : Ieee.double.write d.opposite = Op.negFloat .f64 (Ieee.double.write d) := by
  cases d with
  | nan => cases h
  | infinity s => exact (word_neg inf_lt).symm
  | number s m p =>
    show Ieee.double.nearest (!s) m p = Op.negFloat .f64 (Ieee.double.nearest s m p)
    unfold Ieee.Format.nearest
    by_cases h0 : m = 0
    · rw [if_pos h0, if_pos h0]; exact (word_neg (by decide)).symm
    · rw [if_neg h0, if_neg h0]
      exact (word_neg (Nat.lt_of_le_of_lt (Nat.min_le_right _ _) inf_lt)).symm

theorem product_comm (a b : Ieee.Datum) : a.product b = b.product a := by
  cases a <;> cases b <;> simp only [Ieee.Datum.product] <;> first | rfl | (rename_i s m i t n j; rw [Bool.xor_comm s t, Nat.mul_comm m n, Int.add_comm i j]) | (rename_i s t; rw [Bool.xor_comm]) | (rename_i s m i t; rw [Bool.xor_comm]) | (rename_i s t m i; rw [Bool.xor_comm])
theorem sum_comm (a b : Ieee.Datum) : a.sum b = b.sum a := by
  cases a with
  | nan => cases b <;> rfl
  | infinity s =>
    cases b with
    | nan => rfl
    | infinity t => cases s <;> cases t <;> rfl
    | number => rfl
  | number s m i =>
    cases b with
    | nan => rfl
    | infinity => rfl
    | number t n j => simp only [Ieee.Datum.sum, Int.min_comm i j, Int.add_comm (Ieee.signed s m _), Bool.and_comm s t]

theorem fop_mul_comm (x y : Nat) : fop .mul x y = fop .mul y x := by
  show ((((Ieee.double.read x).product (Ieee.double.read y)).map Ieee.double.write).getD nan0) = (((Ieee.double.read y).product (Ieee.double.read x)).map Ieee.double.write).getD nan0
  rw [product_comm]
theorem fop_add_comm (x y : Nat) : fop .add x y = fop .add y x := by
  show ((((Ieee.double.read x).sum (Ieee.double.read y)).map Ieee.double.write).getD nan0) = (((Ieee.double.read y).sum (Ieee.double.read x)).map Ieee.double.write).getD nan0
  rw [sum_comm]

theorem product_not_nan {a b d : Ieee.Datum} (h : a.product b = some d) : d.isNaN = false := by
  cases a <;> cases b <;> simp [Ieee.Datum.product] at h <;> first | (subst h; rfl) | (obtain ⟨_, rfl⟩ := h; rfl)
theorem sum_not_nan {a b d : Ieee.Datum} (h : a.sum b = some d) : d.isNaN = false := by
  cases a <;> cases b <;> simp [Ieee.Datum.sum] at h <;> first | (subst h; rfl) | (obtain ⟨_, rfl⟩ := h; rfl)
theorem product_opposite (a b : Ieee.Datum) : a.opposite.product b = (a.product b).map Ieee.Datum.opposite := by
  cases a <;> cases b <;> simp only [Ieee.Datum.opposite, Ieee.Datum.product, Option.map_none, Option.map_some, Bool.not_xor] <;> first | rfl | (split <;> first | rfl | simp [Ieee.Datum.opposite])

/-- A product of an opposite is the opposite of the product. -/
theorem fop_mul_neg (x y : Nat) : Same (fop .mul (Op.negFloat .f64 x) y) (Op.negFloat .f64 (fop .mul x y)) := by
  show Same (((((Ieee.double.read (Op.negFloat .f64 x)).product (Ieee.double.read y)).map Ieee.double.write).getD nan0)) (Op.negFloat .f64 ((((Ieee.double.read x).product (Ieee.double.read y)).map Ieee.double.write).getD nan0))
  rw [read_neg, product_opposite]
  cases h : (Ieee.double.read x).product (Ieee.double.read y) with
  | none => exact .inr ⟨isN_nan0, by decide +kernel⟩
  | some d => exact .inl (write_opposite (product_not_nan h))

/-- Equal but for the sign of zero, or both NaN. -/
def Loose (x y : Nat) : Prop := FloatKind.f64.format.order x y = some .eq ∨ (isN x = true ∧ isN y = true)
theorem Loose.of_same {x y : Nat} (h : Same x y) : Loose x y := by
  rcases h with rfl | h
  · cases e : isN x with
    | true => exact .inr ⟨e, e⟩
    | false => exact .inl (order_refl e)
  · exact .inr h
theorem zero_word (s : Bool) : Ieee.double.word s 0 = 0 ∨ Ieee.double.word s 0 = 2 ^ 63 := by cases s <;> decide +kernel
theorem zeros_equal {x y : Nat} (hx : x = 0 ∨ x = 2 ^ 63) (hy : y = 0 ∨ y = 2 ^ 63) : FloatKind.f64.format.order x y = some .eq := by
  rcases hx with rfl | rfl <;> rcases hy with rfl | rfl <;> decide +kernel
theorem signed_not (s : Bool) (m u : Nat) : Ieee.signed (!s) m u = -Ieee.signed s m u := by
  unfold Ieee.signed; cases s <;> simp

/-- The sum of both opposites is the opposite of the sum, but for the sign of zero. -/
theorem fop_add_neg (x y : Nat) : Loose (fop .add (Op.negFloat .f64 x) (Op.negFloat .f64 y)) (Op.negFloat .f64 (fop .add x y)) := by
  show Loose (((((Ieee.double.read (Op.negFloat .f64 x)).sum (Ieee.double.read (Op.negFloat .f64 y))).map Ieee.double.write).getD nan0)) (Op.negFloat .f64 ((((Ieee.double.read x).sum (Ieee.double.read y)).map Ieee.double.write).getD nan0))
  rw [read_neg, read_neg]
  have key : ∀ a b : Ieee.Datum, a.opposite.sum b.opposite = (a.sum b).map Ieee.Datum.opposite ∨
      ∃ s t p, a.sum b = some (.number s 0 p) ∧ a.opposite.sum b.opposite = some (.number t 0 p) := by
    intro a b
    cases a with
    | nan => left; cases b <;> rfl
    | infinity s =>
      left
      cases b with
      | nan => rfl
      | infinity t => cases s <;> cases t <;> rfl
      | number => rfl
    | number s m i =>
      cases b with
      | nan => left; rfl
      | infinity t => left; rfl
      | number t n j =>
        simp only [Ieee.Datum.opposite, Ieee.Datum.sum, signed_not, Option.map_some]
        generalize Ieee.signed s m (i - min i j).toNat = A
        generalize Ieee.signed t n (j - min i j).toNat = B
        by_cases h : A + B = 0
        · right
          have h' : -A + -B = 0 := by omega
          rw [h, h', if_pos rfl, if_pos rfl]
          exact ⟨_, _, _, rfl, rfl⟩
        · left
          have h' : ¬ -A + -B = 0 := by omega
          rw [if_neg h, if_neg h']
          have e1 : (-A + -B).natAbs = (A + B).natAbs := by omega
          have e2 : decide (-A + -B < 0) = !decide (A + B < 0) := by
            by_cases hl : A + B < 0
            · simp [hl]; omega
            · simp [hl]; omega
          rw [e1, e2]
  rcases key (Ieee.double.read x) (Ieee.double.read y) with h | ⟨s, t, p, h1, h2⟩
  · rw [h]
    cases h : (Ieee.double.read x).sum (Ieee.double.read y) with
    | none => exact .inr ⟨isN_nan0, by decide +kernel⟩
    | some d => exact .of_same (.inl (write_opposite (sum_not_nan h)))
  · rw [h1, h2]
    refine .inl ?_
    show FloatKind.f64.format.order (Ieee.double.word t 0) (Op.negFloat .f64 (Ieee.double.word s 0)) = some .eq
    rw [word_neg (by decide)]
    exact zeros_equal (zero_word _) (zero_word _)

theorem Loose.congr {x x' y y' : Nat} (h : Loose x y) (hx : Same x' x) (hy : Same y' y) : Loose x' y' := by
  rcases h with h | ⟨a, b⟩
  · have nx := not_nan_of_eq h
    have ny : isN y = false := not_nan_of_eq (order_eq_symm h)
    have ex : x' = x := by
      rcases hx with e | ⟨_, e⟩
      · exact e
      · rw [nx] at e; cases e
    have ey : y' = y := by
      rcases hy with e | ⟨_, e⟩
      · exact e
      · rw [ny] at e; cases e
    rw [ex, ey]; exact .inl h
  · exact .inr ⟨hx.isN_eq.trans a, hy.isN_eq.trans b⟩
theorem neg_congr {x y : Nat} (h : Same x y) : Same (Op.negFloat .f64 x) (Op.negFloat .f64 y) := by
  rcases h with rfl | ⟨a, b⟩
  · exact .refl _
  · have key : ∀ z, isN z = true → isN (Op.negFloat .f64 z) = true := by
      intro z hz
      obtain ⟨s, t, e⟩ := isN_iff.1 hz
      exact isN_iff.2 ⟨!s, t, by rw [read_neg, e]; rfl⟩
    exact .inr ⟨key x a, key y b⟩
end Go.Proofs.Ytfhdinhfjiilfab
