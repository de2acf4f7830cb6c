/-
  Bounds of floats: how large the nearest word is, and what a word that is not too large stands for. Plain facts, over no program.
-/
import Derived.Test.YtbihlkienhbapabDoorFloat
namespace Go.Proofs.YtbihlkienhbapabDoor
set_option linter.unusedVariables false

theorem lt_two_log (n : Nat) : n < 2 ^ (n.log2 + 1) := Nat.lt_log2_self

/-- What is kept of a number has at most one digit more than the fraction. -/
theorem kept_le (f : Ieee.Format) (neg : Bool) (mag : Nat) (place : Int) (h : mag ≠ 0) (last : Int) (hl : place + mag.log2 - f.fractionBits ≤ last) :
    Ieee.Toward.even.cut neg (mag <<< (place - last).toNat) (last - place).toNat ≤ 2 ^ (f.fractionBits + 1) := by
  have key : ∀ n gap : Nat, n / gap < 2 ^ (f.fractionBits + 1) → ∀ more : Bool, n / gap + more.toNat ≤ 2 ^ (f.fractionBits + 1) := by
    intro n gap h more
    have : more.toNat ≤ 1 := by cases more <;> decide
    omega
  unfold Ieee.Toward.cut
  simp only
  refine key _ _ ?_ _
  rw [Nat.shiftLeft_eq, Nat.one_shiftLeft]
  by_cases hp : last ≤ place
  · have e1 : (last - place).toNat = 0 := by omega
    rw [e1, Nat.zero_min, Nat.pow_zero, Nat.div_one]
    have hm := lt_two_log mag
    have h2 : mag.log2 + 1 + (place - last).toNat ≤ f.fractionBits + 1 := by omega
    calc mag * 2 ^ (place - last).toNat < 2 ^ (mag.log2 + 1) * 2 ^ (place - last).toNat := Nat.mul_lt_mul_of_pos_right hm (Nat.two_pow_pos _)
      _ = 2 ^ (mag.log2 + 1 + (place - last).toNat) := (Nat.pow_add ..).symm
      _ ≤ 2 ^ (f.fractionBits + 1) := Nat.pow_le_pow_right (by decide) h2
  · have e1 : (place - last).toNat = 0 := by omega
    rw [e1, Nat.pow_zero, Nat.mul_one]
    have hm := lt_two_log mag
    by_cases hd : (last - place).toNat ≤ mag.log2 + 2
    · rw [Nat.min_eq_left hd, Nat.div_lt_iff_lt_mul (Nat.two_pow_pos _), ← Nat.pow_add]
      exact Nat.lt_of_lt_of_le hm (Nat.pow_le_pow_right (by decide) (by omega))
    · rw [Nat.min_eq_right (by omega)]
      rw [Nat.div_eq_of_lt (Nat.lt_trans hm (Nat.pow_lt_pow_right (by decide) (by omega)))]
      exact Nat.two_pow_pos _

/-- The rung of the nearest word. -/
theorem nearest_rung (f : Ieee.Format) (neg : Bool) (mag : Nat) (place : Int) (h : mag ≠ 0) :
    ∃ r, f.nearest neg mag place = f.word neg r ∧ r ≤ f.infRung ∧ r ≤ (max (place + mag.log2 - f.fractionBits) f.leastPlace - f.leastPlace).toNat * f.binade + 2 ^ (f.fractionBits + 1) := by
  unfold Ieee.Format.nearest
  rw [if_neg h]
  refine ⟨_, rfl, Nat.min_le_right _ _, Nat.le_trans (Nat.min_le_left _ _) (Nat.add_le_add_left ?_ _)⟩
  exact kept_le f neg mag place h _ (Int.le_max_left _ _)

theorem word_mod (f : Ieee.Format) (neg : Bool) (r : Nat) (h : r < f.signWeight) : f.word neg r % f.signWeight = r := by
  unfold Ieee.Format.word
  cases neg
  · simp only [Bool.false_eq_true, if_false]; exact Nat.mod_eq_of_lt h
  · simp only [if_true]; rw [Nat.add_mod_left]; exact Nat.mod_eq_of_lt h

/-- A word of a small rung is a number that is not too large. -/
theorem read_small (x E : Nat) (hE : E < 2046) (h : x % 2 ^ 63 ≤ E * 2 ^ 52) : ∃ s m p, Ieee.double.read x = .number s m p ∧ (m = 0 ∨ p + m.log2 ≤ (E : Int) - 1022) := by
  have hw : Ieee.double.signWeight = 2 ^ 63 := by decide +kernel
  have hb : Ieee.double.binade = 2 ^ 52 := by decide +kernel
  have hi : Ieee.double.infRung = 2047 * 2 ^ 52 := by decide +kernel
  have hl : Ieee.double.leastPlace = -1074 := by decide +kernel
  unfold Ieee.Format.read
  simp only [hw, hb, hi, hl]
  generalize x % 2 ^ 63 = r at h ⊢
  by_cases h1 : r < 2 ^ 52
  · rw [if_pos h1]
    refine ⟨_, _, _, rfl, ?_⟩
    by_cases h0 : r = 0
    · exact .inl h0
    · right
      have : r.log2 < 52 := (Nat.log2_lt h0).2 h1
      omega
  · rw [if_neg h1, if_pos (by omega)]
    refine ⟨_, _, _, rfl, .inr ?_⟩
    have hm : r % 2 ^ 52 < 2 ^ 52 := Nat.mod_lt _ (by decide)
    have : (2 ^ 52 + r % 2 ^ 52).log2 < 53 := (Nat.log2_lt (by omega)).2 (by omega)
    have hq : r / 2 ^ 52 ≤ E := by omega
    have hq1 : 1 ≤ r / 2 ^ 52 := by omega
    omega

/-- The nearest word of a number that is not too large has a small rung. -/
theorem nearest_small (neg : Bool) (mag : Nat) (place : Int) (E : Nat) (hE : 1 ≤ E ∧ E < 2040) (h : mag = 0 ∨ place + mag.log2 ≤ (E : Int) - 1022) :
    Ieee.double.nearest neg mag place % 2 ^ 63 ≤ (E + 2) * 2 ^ 52 := by
  have hw : Ieee.double.signWeight = 2 ^ 63 := by decide +kernel
  have hb : Ieee.double.binade = 2 ^ 52 := by decide +kernel
  have hi : Ieee.double.infRung = 2047 * 2 ^ 52 := by decide +kernel
  have hl : Ieee.double.leastPlace = -1074 := by decide +kernel
  have hf : Ieee.double.fractionBits = 52 := rfl
  by_cases h0 : mag = 0
  · unfold Ieee.Format.nearest
    rw [if_pos h0, ← hw, word_mod _ _ _ (by rw [hw]; decide)]
    omega
  · obtain ⟨r, e, h1, h2⟩ := nearest_rung Ieee.double neg mag place h0
    rw [e, ← hw, word_mod _ _ _ (by omega)]
    rw [hl, hb, hf] at h2
    have h3 : place + mag.log2 ≤ (E : Int) - 1022 := by
      rcases h with h | h
      · exact absurd h h0
      · exact h
    have h4 : (max (place + (mag.log2 : Int) - (52 : Nat)) (-1074) - (-1074)).toNat ≤ E := by
      omega
    have h5 := Nat.mul_le_mul_right (2 ^ 52) h4
    omega

theorem cut_none (neg : Bool) (n : Nat) : Ieee.Toward.even.cut neg n 0 = n := by
  unfold Ieee.Toward.cut
  simp [Nat.mod_one]

/-- What a whole number is as a float: not too large; a positive one not too small. -/
theorem int_small {n : Int} (h : -2147483647 ≤ n ∧ n ≤ 2147483647) : ∃ s m p, Ieee.double.read (floatOfInt .f64 n) = .number s m p ∧ (m = 0 ∨ p + m.log2 ≤ 32) := by
  have h1 := nearest_small (n < 0) n.natAbs 0 1052 (by decide) (by
    by_cases h0 : n.natAbs = 0
    · exact .inl h0
    · right
      have : n.natAbs.log2 < 31 := (Nat.log2_lt h0).2 (by omega)
      omega)
  obtain ⟨s, m, p, e, h2⟩ := read_small (floatOfInt .f64 n) 1054 (by decide) h1
  exact ⟨s, m, p, e, by rcases h2 with h | h; · exact .inl h
                        · right; omega⟩

theorem int_least {d : Int} (h : 1 ≤ d ∧ d ≤ 2147483647) : ∃ s m p, Ieee.double.read (floatOfInt .f64 d) = .number s m p ∧ m ≠ 0 ∧ 0 ≤ p + m.log2 ∧ m.log2 ≤ 52 := by
  have hw : Ieee.double.signWeight = 2 ^ 63 := by decide +kernel
  have hb : Ieee.double.binade = 2 ^ 52 := by decide +kernel
  have hi : Ieee.double.infRung = 2047 * 2 ^ 52 := by decide +kernel
  have hl : Ieee.double.leastPlace = -1074 := by decide +kernel
  have hf : Ieee.double.fractionBits = 52 := rfl
  obtain ⟨k, rfl⟩ := Int.eq_ofNat_of_zero_le (show 0 ≤ d by omega)
  have hk0 : k ≠ 0 := by omega
  have hk1 : k.log2 < 31 := (Nat.log2_lt hk0).2 (by omega)
  have hk2 : 2 ^ k.log2 ≤ k := Nat.log2_self_le hk0
  have hk3 := lt_two_log k
  -- the word, exactly
  have e : floatOfInt .f64 (k : Int) = Ieee.double.word false ((k.log2 + 1022) * 2 ^ 52 + k * 2 ^ (52 - k.log2)) := by
    show Ieee.double.nearest (decide ((k : Int) < 0)) (k : Int).natAbs 0 = _
    have hd : decide ((k : Int) < 0) = false := by simp
    rw [hd, Int.natAbs_natCast]
    unfold Ieee.Format.nearest
    rw [if_neg hk0, hl, hb, hf, hi]
    have hm : max ((0 : Int) + (k.log2 : Int) - (52 : Nat)) (-1074) = (k.log2 : Int) - 52 := by omega
    simp only [hm]
    have e1 : ((k.log2 : Int) - 52 - 0).toNat = 0 := by omega
    have e2 : ((0 : Int) - ((k.log2 : Int) - 52)).toNat = 52 - k.log2 := by omega
    have e3 : ((k.log2 : Int) - 52 - -1074).toNat = k.log2 + 1022 := by omega
    rw [e1, e2, e3, cut_none, Nat.shiftLeft_eq]
    have hx : k * 2 ^ (52 - k.log2) < 2 ^ 53 := by
      calc k * 2 ^ (52 - k.log2) < 2 ^ (k.log2 + 1) * 2 ^ (52 - k.log2) := Nat.mul_lt_mul_of_pos_right hk3 (Nat.two_pow_pos _)
        _ = 2 ^ (k.log2 + 1 + (52 - k.log2)) := (Nat.pow_add ..).symm
        _ = 2 ^ 53 := by congr 1; omega
    rw [Nat.min_eq_left (by omega)]
  have hx1 : 2 ^ 52 ≤ k * 2 ^ (52 - k.log2) := by
    calc 2 ^ 52 = 2 ^ (k.log2 + (52 - k.log2)) := by congr 1; omega
      _ = 2 ^ k.log2 * 2 ^ (52 - k.log2) := Nat.pow_add ..
      _ ≤ k * 2 ^ (52 - k.log2) := Nat.mul_le_mul_right _ hk2
  have hx2 : k * 2 ^ (52 - k.log2) < 2 ^ 53 := by
    calc k * 2 ^ (52 - k.log2) < 2 ^ (k.log2 + 1) * 2 ^ (52 - k.log2) := Nat.mul_lt_mul_of_pos_right hk3 (Nat.two_pow_pos _)
      _ = 2 ^ (k.log2 + 1 + (52 - k.log2)) := (Nat.pow_add ..).symm
      _ = 2 ^ 53 := by congr 1; omega
  rw [e]
  generalize k * 2 ^ (52 - k.log2) = v at hx1 hx2 ⊢
  unfold Ieee.Format.read
  simp only [word_mod Ieee.double false _ (show (k.log2 + 1022) * 2 ^ 52 + v < Ieee.double.signWeight by rw [hw]; omega)]
  rw [hb, hi, hl, if_neg (by omega), if_pos (by omega)]
  refine ⟨_, _, _, rfl, by omega, ?_, ?_⟩
  · have : 52 ≤ (2 ^ 52 + ((k.log2 + 1022) * 2 ^ 52 + v) % 2 ^ 52).log2 := (Nat.le_log2 (by omega)).2 (by omega)
    have hq : 1023 ≤ ((k.log2 + 1022) * 2 ^ 52 + v) / 2 ^ 52 := by omega
    omega
  · have hm : ((k.log2 + 1022) * 2 ^ 52 + v) % 2 ^ 52 < 2 ^ 52 := Nat.mod_lt _ (by decide)
    have : (2 ^ 52 + ((k.log2 + 1022) * 2 ^ 52 + v) % 2 ^ 52).log2 < 53 := (Nat.log2_lt (by omega)).2 (by omega)
    omega

/-- The quotient of two whole numbers is a number that is not too large. -/
theorem quo_small {n d : Int} (hn : -2147483647 ≤ n ∧ n ≤ 2147483647) (hd : 1 ≤ d ∧ d ≤ 2147483647) :
    ∃ P, floatBits .quo .f64 (floatOfInt .f64 n) (floatOfInt .f64 d) = some P ∧ ∃ s m p, Ieee.double.read P = .number s m p ∧ (m = 0 ∨ p + m.log2 ≤ 34) := by
  obtain ⟨s, m, i, e1, h1⟩ := int_small hn
  obtain ⟨t, k, j, e2, k0, h2, h3⟩ := int_least hd
  obtain ⟨s', m', i', e1', h1'⟩ : ∃ s m p, Ieee.double.read (floatOfInt .f64 n) = .number s m p ∧ m.log2 ≤ 52 := by
    refine ⟨s, m, i, e1, ?_⟩
    have hb : Ieee.double.binade = 2 ^ 52 := by decide +kernel
    unfold Ieee.Format.read at e1
    simp only at e1
    split at e1
    · rename_i hr
      cases e1
      rw [hb] at hr
      by_cases h0 : floatOfInt .f64 n % Ieee.double.signWeight = 0
      · rw [h0]; decide
      · have := (Nat.log2_lt h0).2 hr; omega
    · split at e1
      · cases e1
        rw [hb]
        have hm : floatOfInt .f64 n % Ieee.double.signWeight % 2 ^ 52 < 2 ^ 52 := Nat.mod_lt _ (by decide)
        have : (2 ^ 52 + floatOfInt .f64 n % Ieee.double.signWeight % 2 ^ 52).log2 < 53 := (Nat.log2_lt (by omega)).2 (by omega)
        omega
      · split at e1 <;> cases e1
  rw [e1] at e1'
  cases e1'
  have hq : floatBits .quo .f64 (floatOfInt .f64 n) (floatOfInt .f64 d) = some (Ieee.double.nearest (s ^^ t)
      (2 * ((m <<< (54 + k.log2 - m.log2)) / k) + ((m <<< (54 + k.log2 - m.log2)) % k != 0).toNat) (i - j - (54 + k.log2 - m.log2 : Nat) - 1)) := by
    show ((Ieee.double.read (floatOfInt .f64 n)).quotient (Ieee.double.fractionBits + 2) (Ieee.double.read (floatOfInt .f64 d))).map Ieee.double.write = _
    rw [e1, e2]
    simp only [Ieee.Datum.quotient, if_neg k0]
    rfl
  refine ⟨_, hq, ?_⟩
  have hb : (m <<< (54 + k.log2 - m.log2)) / k < 2 ^ 55 := by
    rw [Nat.shiftLeft_eq, Nat.div_lt_iff_lt_mul (by omega)]
    have hk := Nat.log2_self_le k0
    calc m * 2 ^ (54 + k.log2 - m.log2) < 2 ^ (m.log2 + 1) * 2 ^ (54 + k.log2 - m.log2) := Nat.mul_lt_mul_of_pos_right (lt_two_log m) (Nat.two_pow_pos _)
      _ = 2 ^ (m.log2 + 1 + (54 + k.log2 - m.log2)) := (Nat.pow_add ..).symm
      _ = 2 ^ (55 + k.log2) := by congr 1; omega
      _ = 2 ^ 55 * 2 ^ k.log2 := Nat.pow_add ..
      _ ≤ 2 ^ 55 * k := Nat.mul_le_mul_left _ hk
  have hb2 : ((m <<< (54 + k.log2 - m.log2)) % k != 0).toNat ≤ 1 := by cases ((m <<< (54 + k.log2 - m.log2)) % k != 0) <;> decide
  by_cases h0 : m = 0
  · -- nothing over something
    subst h0
    have : (0 <<< (54 + k.log2 - Nat.log2 0)) = 0 := Nat.zero_shiftLeft _
    rw [this, Nat.zero_div, Nat.zero_mod]
    have h5 := nearest_small (s ^^ t) (2 * 0 + ((0 : Nat) != 0).toNat) (i - j - (54 + k.log2 - Nat.log2 0 : Nat) - 1) 1 (by decide) (.inl rfl)
    obtain ⟨s2, m2, p2, e3, h6⟩ := read_small _ 3 (by decide) h5
    exact ⟨s2, m2, p2, e3, by rcases h6 with h | h; · exact .inl h
                              · right; omega⟩
  · have h4 : i + m.log2 ≤ 32 := by rcases h1 with h | h; · exact absurd h h0
                                    · exact h
    generalize hM : 2 * ((m <<< (54 + k.log2 - m.log2)) / k) + ((m <<< (54 + k.log2 - m.log2)) % k != 0).toNat = M
    have hM2 : M < 2 ^ 56 := by omega
    have h5 := nearest_small (s ^^ t) M (i - j - (54 + k.log2 - m.log2 : Nat) - 1) 1054 (by decide) (by
      by_cases hM0 : M = 0
      · exact .inl hM0
      · right
        have : M.log2 < 56 := (Nat.log2_lt hM0).2 hM2
        omega)
    obtain ⟨s2, m2, p2, e3, h6⟩ := read_small _ 1056 (by decide) h5
    exact ⟨s2, m2, p2, e3, by rcases h6 with h | h; · exact .inl h
                              · right; omega⟩

/-- A number that is not too large is narrowed to a told word. -/
theorem narrow_small {x : Nat} {s : Bool} {m : Nat} {p : Int} (e : Ieee.double.read x = .number s m p) (h : m = 0 ∨ p + m.log2 ≤ 34) : ∃ r, floatToFloatBits .f64 x .f32 = some r := by
  have hw : Ieee.single.signWeight = 2 ^ 31 := by decide +kernel
  have hb : Ieee.single.binade = 2 ^ 23 := by decide +kernel
  have hi : Ieee.single.infRung = 255 * 2 ^ 23 := by decide +kernel
  have hl : Ieee.single.leastPlace = -149 := by decide +kernel
  have hf : Ieee.single.fractionBits = 23 := rfl
  have e' : FloatKind.f64.decode x = .number s m p := e
  have hr : ∃ r, FloatKind.f32.encode (.number s m p) = Ieee.single.word s r ∧ r < Ieee.single.infRung := by
    show ∃ r, Ieee.single.nearest s m p = Ieee.single.word s r ∧ r < Ieee.single.infRung
    by_cases h0 : m = 0
    · exact ⟨0, by unfold Ieee.Format.nearest; rw [if_pos h0], by rw [hi]; decide⟩
    · obtain ⟨r, e1, _, h2⟩ := nearest_rung Ieee.single s m p h0
      refine ⟨r, e1, ?_⟩
      rw [hl, hb, hf] at h2
      have h3 : p + m.log2 ≤ 34 := by rcases h with h | h; · exact absurd h h0
                                      · exact h
      have h4 : (max (p + (m.log2 : Int) - (23 : Nat)) (-149) - (-149)).toNat ≤ 160 := by omega
      have h5 := Nat.mul_le_mul_right (2 ^ 23) h4
      omega
  obtain ⟨r, e1, h1⟩ := hr
  refine ⟨FloatKind.f32.encode (.number s m p), ?_⟩
  unfold floatToFloatBits
  rw [if_neg (by decide), e']
  simp only
  rw [if_neg]
  rw [e1]
  show ¬ (Ieee.single.read (Ieee.single.word s r)).isInfinity = true
  unfold Ieee.Format.read
  simp only [word_mod Ieee.single s r (by omega)]
  split
  · simp [Ieee.Datum.isInfinity]
  · simp [Ieee.Datum.isInfinity]
end Go.Proofs.YtbihlkienhbapabDoor
