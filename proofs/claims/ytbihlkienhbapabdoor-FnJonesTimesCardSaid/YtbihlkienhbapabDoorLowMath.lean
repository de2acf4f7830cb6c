/-
  Lowest terms: plain facts on the functions of whole numbers that the model's and the program's fractions are.
-/
import Derived.Test.YtbihlkienhbapabDoorSpecLow
import Derived.Test.YtbihlkienhbapabDoorSpecPower
import Derived.Test.YtbihlkienhbapabDoorSpecQuo
namespace Go.Proofs.YtbihlkienhbapabDoor
set_option linter.unusedVariables false

theorem gcd3_nat (re im den : Int) : gcd3 re im den = Nat.gcd (Nat.gcd den.natAbs re.natAbs) im.natAbs := rfl
theorem gcd3_div {re im den : Int} (h : 1 ≤ den) : gcd3 (re.tdiv (gcd3 re im den)) (im.tdiv (gcd3 re im den)) (den / (gcd3 re im den : Int)) = 1 := by
  have hp := gcd3_pos (re := re) (im := im) h
  obtain ⟨g, hg⟩ : ∃ g, gcd3 re im den = g := ⟨_, rfl⟩
  rw [hg] at hp ⊢
  have e := gcd3_nat re im den
  rw [hg] at e
  have d1 : g ∣ Nat.gcd den.natAbs re.natAbs := e ▸ Nat.gcd_dvd_left _ _
  have d2 : g ∣ im.natAbs := e ▸ Nat.gcd_dvd_right _ _
  have d3 : g ∣ den.natAbs := Nat.dvd_trans d1 (Nat.gcd_dvd_left _ _)
  have d4 : g ∣ re.natAbs := Nat.dvd_trans d1 (Nat.gcd_dvd_right _ _)
  rw [gcd3_nat]
  have e3 : (den / (g : Int)).natAbs = den.natAbs / g := by
    obtain ⟨n, rfl⟩ : ∃ n : Nat, den = n := ⟨den.toNat, by omega⟩
    rw [← Int.natCast_ediv, Int.natAbs_natCast, Int.natAbs_natCast]
  have e1 : (re.tdiv (g : Int)).natAbs = re.natAbs / g := by rw [Int.natAbs_tdiv]; rfl
  have e2 : (im.tdiv (g : Int)).natAbs = im.natAbs / g := by rw [Int.natAbs_tdiv]; rfl
  rw [e1, e2, e3, Nat.gcd_div d3 d4, Nat.gcd_div d1 d2, ← e]
  exact Nat.div_self hp

/-- What the program asks of the quotients is what the model asks. -/
theorem lowF_eq {re im den : Int} (h : 1 ≤ den) : lowF re im den =
    if (partB (re.tdiv (gcd3 re im den)) && partB (im.tdiv (gcd3 re im den)) && decide (den / (gcd3 re im den : Int) ≤ 2000000000)) = true
    then some (re.tdiv (gcd3 re im den), im.tdiv (gcd3 re im den), den / (gcd3 re im den : Int)) else none := by
  have h1 := gcd3_div (re := re) (im := im) h
  have hp := gcd3_pos (re := re) (im := im) h
  have h2 : 1 ≤ den / (gcd3 re im den : Int) := by
    have hd : (gcd3 re im den : Int) ∣ den := by
      have : gcd3 re im den ∣ den.natAbs := Nat.dvd_trans (Nat.gcd_dvd_left _ _) (Nat.gcd_dvd_left _ _)
      exact Int.ofNat_dvd_left.2 this
    have := Int.ediv_pos_of_pos_of_dvd (by omega) (by omega) hd
    omega
  unfold lowF
  simp only []
  have e : okF (re.tdiv (gcd3 re im den)) (im.tdiv (gcd3 re im den)) (den / (gcd3 re im den : Int)) = (partB (re.tdiv (gcd3 re im den)) && partB (im.tdiv (gcd3 re im den)) && decide (den / (gcd3 re im den : Int) ≤ 2000000000)) := by
    unfold okF
    rw [h1]
    have : inB (den / (gcd3 re im den : Int)) 1 2000000000 = decide (den / (gcd3 re im den : Int) ≤ 2000000000) := by
      simp [inB, h2]
    rw [this]; simp
  rw [e]

/-- Lowest terms of parts and a bottom of any size. -/
def lowE (re im den : Int) : Option (Int × Int × Int) := if den < 1 then none else lowF re im den

theorem okF_low {x y z : Int} : okF x y z = true ↔ lowE x y z = some (x, y, z) := by
  unfold lowE
  constructor
  · intro h
    have b := (okF_bd h).2.2
    have hg : gcd3 x y z = 1 := by
      unfold okF at h
      simp only [Bool.and_eq_true, decide_eq_true_eq] at h
      exact h.2
    rw [if_neg (by omega)]
    unfold lowF
    simp only [hg, Int.ofNat_one, Int.tdiv_one, Int.ediv_one]
    rw [if_pos h]
  · intro h
    split at h
    · cases h
    · unfold lowF at h
      simp only at h
      split at h
      · rename_i hk
        simp only [Option.some.injEq, Prod.mk.injEq] at h
        obtain ⟨h1, h2, h3⟩ := h
        rw [h1, h2, h3] at hk
        exact hk
      · cases h

theorem lowF_scale {k a b c : Int} (hk : 1 ≤ k) : lowF (k * a) (k * b) (k * c) = lowF a b c := by
  obtain ⟨n, rfl⟩ : ∃ n : Nat, k = n := ⟨k.toNat, by omega⟩
  have hn : 0 < n := by omega
  have e : gcd3 (n * a) (n * b) (n * c) = n * gcd3 a b c := by
    simp only [gcd3_nat, Int.natAbs_mul, Int.natAbs_natCast, Nat.gcd_mul_left]
  have q : ∀ a : Int, (n * a).tdiv ((n * gcd3 a b c : Nat) : Int) = (n * a).tdiv (n * (gcd3 a b c : Int)) := by intro a; simp
  unfold lowF
  simp only [e, Int.natCast_mul]
  rw [Int.mul_tdiv_mul_of_pos _ _ (by omega), Int.mul_tdiv_mul_of_pos _ _ (by omega), Int.mul_ediv_mul_of_pos _ _ (by omega)]

theorem partB_neg (x : Int) : partB (-x) = partB x := by
  unfold partB inB
  rw [decide_eq_decide]
  omega
theorem okF_neg1 (x y z : Int) : okF x (-y) z = okF x y z := by
  unfold okF gcd3
  rw [partB_neg, Int.gcd_neg]
theorem okF_neg2 (x y z : Int) : okF (-x) (-y) z = okF x y z := by
  unfold okF gcd3
  rw [partB_neg, partB_neg, Int.gcd_neg, Int.gcd_neg]

/-- The sum with the opposite. -/
theorem sumF_neg (x y z a b c : Int) : sumF (-1) x y z a b c = sumF 1 x y z (-a) (-b) c := by
  unfold sumF
  rw [okF_neg2]
  simp only [Int.one_mul, Int.neg_one_mul]
theorem sq_zero {x y : Int} (h : x * x + y * y = 0) : x = 0 ∧ y = 0 := by
  have h1 : 0 ≤ x * x := by
    rcases Int.le_total 0 x with h | h
    · exact Int.mul_nonneg h h
    · exact Int.mul_nonneg_of_nonpos_of_nonpos h h
  have h2 : 0 ≤ y * y := by
    rcases Int.le_total 0 y with h | h
    · exact Int.mul_nonneg h h
    · exact Int.mul_nonneg_of_nonpos_of_nonpos h h
  have h3 : x * x = 0 := by omega
  have h4 : y * y = 0 := by omega
  exact ⟨by rcases Int.mul_eq_zero.1 h3 with h | h <;> exact h, by rcases Int.mul_eq_zero.1 h4 with h | h <;> exact h⟩

/-- 1 over a fraction: over the bottom's square at once, or with what is common left out first. -/
theorem turned_eq {x y z : Int} (hz : 1 ≤ z) : lowE (x * z) (-y * z) (x * x + y * y) = turnedF x y z := by
  unfold lowE turnedF
  by_cases h0 : x * x + y * y = 0
  · rw [if_pos (by omega), if_pos h0]
  have h1 : 0 < x * x + y * y := by
    have h1 : 0 ≤ x * x := by
      rcases Int.le_total 0 x with h | h
      · exact Int.mul_nonneg h h
      · exact Int.mul_nonneg_of_nonpos_of_nonpos h h
    have h2 : 0 ≤ y * y := by
      rcases Int.le_total 0 y with h | h
      · exact Int.mul_nonneg h h
      · exact Int.mul_nonneg_of_nonpos_of_nonpos h h
    omega
  rw [if_neg (by omega), if_neg h0]
  obtain ⟨n, hn⟩ : ∃ n, x * x + y * y = n := ⟨_, rfl⟩
  rw [hn] at h1 h0 ⊢
  obtain ⟨g, hg⟩ : ∃ g : Nat, Int.gcd n z = g := ⟨_, rfl⟩
  have hp : 0 < g := hg ▸ Int.gcd_pos_of_ne_zero_left _ (by omega)
  have d1 : (g : Int) ∣ n := hg ▸ Int.gcd_dvd_left ..
  have d2 : (g : Int) ∣ z := hg ▸ Int.gcd_dvd_right ..
  rw [hg]
  have e1 : (g : Int) * (z / g) = z := Int.mul_ediv_cancel' d2
  have e2 : (g : Int) * (n / g) = n := Int.mul_ediv_cancel' d1
  have s := lowF_scale (k := g) (a := x * (z / g)) (b := -(y * (z / g))) (c := n / g) (by omega)
  rw [← s, e2]
  have e3 : (g : Int) * (x * (z / g)) = x * z := by rw [← Int.mul_assoc, Int.mul_comm (g : Int) x, Int.mul_assoc, e1]
  have e4 : (g : Int) * (-(y * (z / g))) = -y * z := by rw [Int.mul_neg, ← Int.mul_assoc, Int.mul_comm (g : Int) y, Int.mul_assoc, e1, Int.neg_mul]
  rw [e3, e4]

theorem power_eq (x y z : Int) : powerF x y z = if okF x y z = true then lowE (x * x + y * y) 0 (z * z) else none := by
  unfold powerF
  by_cases h : okF x y z = true
  · rw [if_pos h, if_pos h]
    have b := (okF_bd h).2.2
    have hz : 1 ≤ z * z := by have := Int.mul_le_mul (a := 1) (b := 1) (c := z) (d := z) (by omega) (by omega) (by omega) (by omega); omega
    unfold timesF lowE
    rw [okF_neg1, h, if_neg (show ¬ z * z < 1 by omega)]
    have e1 : x * x - y * -y = x * x + y * y := by rw [Int.mul_neg]; omega
    have e2 : x * -y + y * x = 0 := by rw [Int.mul_neg, Int.mul_comm y x]; omega
    simp only [Bool.and_self, if_true, e1, e2]
  · rw [if_neg h, if_neg h]
theorem over_eq (x y z a b c : Int) : overF x y z a b c = if okF a b c = true then (lowE (a * c) (-b * c) (a * a + b * b)).bind fun r => timesF x y z r.1 r.2.1 r.2.2 else none := by
  unfold overF
  by_cases h2 : okF a b c = true
  · rw [if_pos h2, turned_eq (okF_bd h2).2.2.1, h2, Bool.and_true]
    by_cases h1 : okF x y z = true
    · rw [h1, Bool.true_and]
      by_cases h0 : a = 0 ∧ b = 0
      · obtain ⟨rfl, rfl⟩ := h0
        simp [turnedF]
      · have h0' : (!(decide (a = 0) && decide (b = 0))) = true := by
          simp only [Bool.not_eq_true', Bool.and_eq_false_iff, decide_eq_false_iff_not]; omega
        rw [if_pos h0']
    · have h1' : okF x y z = false := by simpa using h1
      rw [h1']
      rw [if_neg (by simp)]
      cases turnedF a b c with
      | none => rfl
      | some r => simp [timesF, h1']
  · have h2' : okF a b c = false := by simpa using h2
    rw [h2']
    simp
end Go.Proofs.YtbihlkienhbapabDoor
