/-
  Fractions as rational numbers: what sums, products, powers are worth; equal values are equal fractions.
-/
import Derived.Test.YtbihlkienhbapabDoorFracMath
namespace Go.Proofs.YtbihlkienhbapabDoor
set_option linter.unusedVariables false

/-- A part over a bottom, as a rational number. -/
def rv (x z : Int) : Rat := (x : Rat) / (z : Rat)
theorem ne0 {z : Int} (h : 1 ≤ z) : (z : Rat) ≠ 0 := by
  intro e
  have : z = 0 := by exact_mod_cast e
  omega
theorem rv_eq {x z p r : Int} (hz : 1 ≤ z) (hr : 1 ≤ r) : rv x z = rv p r ↔ x * r = p * z := by
  have h1 := ne0 hz
  have h2 := ne0 hr
  unfold rv
  constructor
  · intro h
    have : (x : Rat) * r = p * z := by grind
    exact_mod_cast this
  · intro h
    have : (x : Rat) * r = p * z := by exact_mod_cast h
    grind
theorem rv_neg (x z : Int) : rv (-x) z = -rv x z := by
  unfold rv
  have : ((-x : Int) : Rat) = -(x : Rat) := by exact_mod_cast rfl
  rw [this]
  grind
theorem rv_zero (z : Int) : rv 0 z = 0 := by
  unfold rv
  have : ((0 : Int) : Rat) = 0 := by exact_mod_cast rfl
  rw [this]
  grind
theorem rv_one (x : Int) : rv x 1 = (x : Rat) := by
  unfold rv
  have : ((1 : Int) : Rat) = 1 := by exact_mod_cast rfl
  rw [this]
  grind
theorem okF_den {x y z : Int} (h : okF x y z = true) : 1 ≤ z := (okF_bd h).2.2.1
theorem uniqV {x y z p q r : Int} (h1 : okF x y z = true) (h2 : okF p q r = true) (e1 : rv x z = rv p r) (e2 : rv y z = rv q r) : (x, y, z) = (p, q, r) :=
  uniqF h1 h2 ((rv_eq (okF_den h1) (okF_den h2)).1 e1) ((rv_eq (okF_den h1) (okF_den h2)).1 e2)
theorem times_val {x y z a b c p q r : Int} (h : timesF x y z a b c = some (p, q, r)) :
    okF x y z = true ∧ okF a b c = true ∧ okF p q r = true ∧ rv p r = rv x z * rv a c - rv y z * rv b c ∧ rv q r = rv x z * rv b c + rv y z * rv a c := by
  obtain ⟨h1, h2, h3, e1, e2⟩ := times_some h
  refine ⟨h1, h2, h3, ?_, ?_⟩
  all_goals
    have hz := ne0 (okF_den h1)
    have hc := ne0 (okF_den h2)
    have hr := ne0 (okF_den h3)
    unfold rv
  · have : (p : Rat) * (z * c) = (x * a - y * b) * r := by exact_mod_cast e1
    grind
  · have : (q : Rat) * (z * c) = (x * b + y * a) * r := by exact_mod_cast e2
    grind
theorem times_ofV {x y z a b c p q r : Int} (h1 : okF x y z = true) (h2 : okF a b c = true) (h3 : okF p q r = true) (e1 : rv p r = rv x z * rv a c - rv y z * rv b c) (e2 : rv q r = rv x z * rv b c + rv y z * rv a c) : timesF x y z a b c = some (p, q, r) := by
  have hz := ne0 (okF_den h1)
  have hc := ne0 (okF_den h2)
  have hr := ne0 (okF_den h3)
  unfold rv at e1 e2
  refine times_of h1 h2 h3 ?_ ?_
  · have : (p : Rat) * (z * c) = (x * a - y * b) * r := by grind
    exact_mod_cast this
  · have : (q : Rat) * (z * c) = (x * b + y * a) * r := by grind
    exact_mod_cast this
theorem sum_val {x y z a b c p q r : Int} (h : sumF 1 x y z a b c = some (p, q, r)) :
    okF x y z = true ∧ okF a b c = true ∧ okF p q r = true ∧ rv p r = rv x z + rv a c ∧ rv q r = rv y z + rv b c := by
  obtain ⟨h1, h2, h3, e1, e2⟩ := sum_some h
  refine ⟨h1, h2, h3, ?_, ?_⟩
  all_goals
    have hz := ne0 (okF_den h1)
    have hc := ne0 (okF_den h2)
    have hr := ne0 (okF_den h3)
    unfold rv
  · have : (p : Rat) * (z * c) = (x * c + 1 * a * z) * r := by exact_mod_cast e1
    grind
  · have : (q : Rat) * (z * c) = (y * c + 1 * b * z) * r := by exact_mod_cast e2
    grind
theorem sum_ofV {x y z a b c p q r : Int} (h1 : okF x y z = true) (h2 : okF a b c = true) (h3 : okF p q r = true) (e1 : rv p r = rv x z + rv a c) (e2 : rv q r = rv y z + rv b c) : sumF 1 x y z a b c = some (p, q, r) := by
  have hz := ne0 (okF_den h1)
  have hc := ne0 (okF_den h2)
  have hr := ne0 (okF_den h3)
  unfold rv at e1 e2
  refine sum_of h1 h2 h3 ?_ ?_
  · have : (p : Rat) * (z * c) = (x * c + 1 * a * z) * r := by grind
    exact_mod_cast this
  · have : (q : Rat) * (z * c) = (y * c + 1 * b * z) * r := by grind
    exact_mod_cast this
theorem power_val {x y z p q r : Int} (h : powerF x y z = some (p, q, r)) :
    okF x y z = true ∧ okF p q r = true ∧ rv p r = rv x z * rv x z + rv y z * rv y z ∧ rv q r = 0 ∧ q = 0 := by
  obtain ⟨h1, h2, e1, rfl⟩ := power_some h
  have hz := ne0 (okF_den h1)
  have hr := ne0 (okF_den h2)
  refine ⟨h1, h2, ?_, rv_zero _, rfl⟩
  have : (p : Rat) * (z * z) = (x * x + y * y) * r := by exact_mod_cast e1
  unfold rv
  grind
theorem mirror_val {x y z u v t : Int} (h : mirrorF x y z = some (u, v, t)) : okF x y z = true ∧ okF u v t = true ∧ rv u t = rv x z ∧ rv v t = -rv y z ∧ u = x ∧ v = -y ∧ t = z := by
  unfold mirrorF at h
  split at h
  · rename_i hk
    cases h
    exact ⟨hk, by rw [okF_neg1]; exact hk, rfl, rv_neg _ _, rfl, rfl, rfl⟩
  · cases h
theorem rv_nonneg {p r : Int} (hr : 1 ≤ r) : 0 ≤ rv p r ↔ 0 ≤ p := by
  have hr' : (0 : Rat) < (r : Rat) := by
    have : (0 : Int) < r := by omega
    exact_mod_cast this
  unfold rv
  constructor
  · intro h
    have h2 : (0 : Rat) ≤ (p : Rat) / r * r := Rat.mul_nonneg h (Rat.le_of_lt hr')
    have h3 : (p : Rat) / r * r = p := by have := ne0 hr; grind
    rw [h3] at h2
    exact_mod_cast h2
  · intro h
    have h2 : (0 : Rat) ≤ (p : Rat) := by exact_mod_cast h
    rw [Rat.div_def]
    exact Rat.mul_nonneg h2 (Rat.le_of_lt (Rat.inv_pos.2 hr'))
theorem sq_nonneg (a : Rat) : 0 ≤ a * a := by
  rcases (show 0 ≤ a ∨ a ≤ 0 by grind) with h | h
  · exact Rat.mul_nonneg h h
  · have h1 : 0 ≤ -a := by grind
    have := Rat.mul_nonneg h1 h1
    grind
end Go.Proofs.YtbihlkienhbapabDoor
