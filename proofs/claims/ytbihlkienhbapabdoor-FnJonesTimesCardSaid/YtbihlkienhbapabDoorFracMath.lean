/-
  Fractions as plain functions of whole numbers: what lowest terms are, told by cross products; the laws of chapter 2 of them.
-/
import Derived.Test.YtbihlkienhbapabDoorLowMath
import Derived.Test.YtbihlkienhbapabDoorSpecMake
namespace Go.Proofs.YtbihlkienhbapabDoor
set_option linter.unusedVariables false

theorem gcd3_dvd {x y z r : Int} (h : gcd3 x y z = 1) (h1 : z ∣ x * r) (h2 : z ∣ y * r) : z ∣ r := by
  have a1 : z.natAbs ∣ x.natAbs * r.natAbs := by rw [← Int.natAbs_mul]; exact Int.natAbs_dvd_natAbs.2 h1
  have a2 : z.natAbs ∣ y.natAbs * r.natAbs := by rw [← Int.natAbs_mul]; exact Int.natAbs_dvd_natAbs.2 h2
  have a3 : z.natAbs ∣ z.natAbs * r.natAbs := Nat.dvd_mul_right _ _
  have b := Nat.dvd_gcd (Nat.dvd_gcd a3 a1) a2
  rw [Nat.gcd_mul_right, Nat.gcd_mul_right, ← gcd3_nat, h, Nat.one_mul] at b
  exact Int.natAbs_dvd_natAbs.1 b
/-- In lowest terms there is one way to write a fraction. -/
theorem uniq {x y z p q r : Int} (h1 : gcd3 x y z = 1) (h2 : gcd3 p q r = 1) (hz : 1 ≤ z) (hr : 1 ≤ r) (e1 : x * r = p * z) (e2 : y * r = q * z) : (x, y, z) = (p, q, r) := by
  have d1 : z ∣ r := gcd3_dvd h1 (e1 ▸ Int.dvd_mul_left _ _) (e2 ▸ Int.dvd_mul_left _ _)
  have d2 : r ∣ z := gcd3_dvd h2 (e1 ▸ Int.dvd_mul_left _ _) (e2 ▸ Int.dvd_mul_left _ _)
  have d3 : z = r := Int.dvd_antisymm (by omega) (by omega) d1 d2
  subst d3
  have c1 : x = p := Int.eq_of_mul_eq_mul_right (by omega) e1
  have c2 : y = q := Int.eq_of_mul_eq_mul_right (by omega) e2
  rw [c1, c2]
theorem okF_gcd {x y z : Int} (h : okF x y z = true) : gcd3 x y z = 1 := by
  unfold okF at h
  simp only [Bool.and_eq_true, decide_eq_true_eq] at h
  exact h.2
theorem uniqF {x y z p q r : Int} (h1 : okF x y z = true) (h2 : okF p q r = true) (e1 : x * r = p * z) (e2 : y * r = q * z) : (x, y, z) = (p, q, r) :=
  uniq (okF_gcd h1) (okF_gcd h2) (okF_bd h1).2.2.1 (okF_bd h2).2.2.1 e1 e2

theorem gcd3_dvds (x y d : Int) : (gcd3 x y d : Int) ∣ d ∧ (gcd3 x y d : Int) ∣ x ∧ (gcd3 x y d : Int) ∣ y := by
  have e := gcd3_nat x y d
  have d1 : gcd3 x y d ∣ Nat.gcd d.natAbs x.natAbs := e ▸ Nat.gcd_dvd_left _ _
  have d2 : gcd3 x y d ∣ y.natAbs := e ▸ Nat.gcd_dvd_right _ _
  exact ⟨Int.ofNat_dvd_left.2 (Nat.dvd_trans d1 (Nat.gcd_dvd_left _ _)), Int.ofNat_dvd_left.2 (Nat.dvd_trans d1 (Nat.gcd_dvd_right _ _)), Int.ofNat_dvd_left.2 d2⟩
/-- What the lowest terms are. -/
theorem low_parts {x y d : Int} (hd : 1 ≤ d) : ∃ g : Int, 1 ≤ g ∧ x = g * x.tdiv (gcd3 x y d) ∧ y = g * y.tdiv (gcd3 x y d) ∧ d = g * (d / (gcd3 x y d : Int)) ∧ g = gcd3 x y d := by
  obtain ⟨a, b, c⟩ := gcd3_dvds x y d
  have hp := gcd3_pos (re := x) (im := y) hd
  refine ⟨gcd3 x y d, by omega, ?_, ?_, ?_, rfl⟩
  · exact (Int.mul_tdiv_cancel' b).symm
  · exact (Int.mul_tdiv_cancel' c).symm
  · exact (Int.mul_ediv_cancel' a).symm
theorem low_iff {x y d p q r : Int} (hd : 1 ≤ d) : lowF x y d = some (p, q, r) ↔ okF p q r = true ∧ p * d = x * r ∧ q * d = y * r := by
  obtain ⟨g, hg, ex, ey, ed, eg⟩ := low_parts (x := x) (y := y) hd
  have h1 := gcd3_div (re := x) (im := y) hd
  obtain ⟨x', hx'⟩ : ∃ x', x.tdiv (gcd3 x y d) = x' := ⟨_, rfl⟩
  obtain ⟨y', hy'⟩ : ∃ y', y.tdiv (gcd3 x y d) = y' := ⟨_, rfl⟩
  obtain ⟨d', hd'⟩ : ∃ d', d / (gcd3 x y d : Int) = d' := ⟨_, rfl⟩
  have el : lowF x y d = if okF x' y' d' = true then some (x', y', d') else none := by
    unfold lowF
    simp only []
    rw [hx', hy', hd']
  rw [hx'] at ex h1
  rw [hy'] at ey h1
  rw [hd'] at ed h1
  have hd1 : 1 ≤ d' := by
    rcases Int.lt_or_le d' 1 with h | h
    · have : g * d' ≤ 0 := Int.mul_nonpos_of_nonneg_of_nonpos (by omega) (by omega)
      omega
    · exact h
  rw [el]
  clear el eg hx' hy' hd'
  constructor
  · intro h
    split at h
    · rename_i hk
      simp only [Option.some.injEq, Prod.mk.injEq] at h
      obtain ⟨rfl, rfl, rfl⟩ := h
      refine ⟨hk, ?_, ?_⟩
      · rw [ed, ex]; grind
      · rw [ed, ey]; grind
    · cases h
  · rintro ⟨hk, e1, e2⟩
    have b := (okF_bd hk).2.2.1
    have f1 : x' * r = p * d' := Int.eq_of_mul_eq_mul_left (a := g) (by omega) (by rw [ed, ex] at e1; grind)
    have f2 : y' * r = q * d' := Int.eq_of_mul_eq_mul_left (a := g) (by omega) (by rw [ed, ey] at e2; grind)
    have u := uniq h1 (okF_gcd hk) hd1 b f1 f2
    simp only [Prod.mk.injEq] at u
    obtain ⟨rfl, rfl, rfl⟩ := u
    rw [if_pos hk]
theorem mul_pos1 {a b : Int} (ha : 1 ≤ a) (hb : 1 ≤ b) : 1 ≤ a * b := by
  have := Int.mul_le_mul (a := 1) (b := 1) (c := a) (d := b) (by omega) (by omega) (by omega) (by omega)
  omega
theorem sum_some {s x y z a b c p q r : Int} (h : sumF s x y z a b c = some (p, q, r)) :
    okF x y z = true ∧ okF a b c = true ∧ okF p q r = true ∧ p * (z * c) = (x * c + s * a * z) * r ∧ q * (z * c) = (y * c + s * b * z) * r := by
  unfold sumF at h
  split at h
  · rename_i hk
    simp only [Bool.and_eq_true] at hk
    exact ⟨hk.1, hk.2, (low_iff (mul_pos1 (okF_bd hk.1).2.2.1 (okF_bd hk.2).2.2.1)).1 h⟩
  · cases h
theorem sum_of {s x y z a b c p q r : Int} (h1 : okF x y z = true) (h2 : okF a b c = true) (h3 : okF p q r = true) (e1 : p * (z * c) = (x * c + s * a * z) * r) (e2 : q * (z * c) = (y * c + s * b * z) * r) :
    sumF s x y z a b c = some (p, q, r) := by
  unfold sumF
  rw [h1, h2]
  exact (low_iff (mul_pos1 (okF_bd h1).2.2.1 (okF_bd h2).2.2.1)).2 ⟨h3, e1, e2⟩
theorem times_some {x y z a b c p q r : Int} (h : timesF x y z a b c = some (p, q, r)) :
    okF x y z = true ∧ okF a b c = true ∧ okF p q r = true ∧ p * (z * c) = (x * a - y * b) * r ∧ q * (z * c) = (x * b + y * a) * r := by
  unfold timesF at h
  split at h
  · rename_i hk
    simp only [Bool.and_eq_true] at hk
    exact ⟨hk.1, hk.2, (low_iff (mul_pos1 (okF_bd hk.1).2.2.1 (okF_bd hk.2).2.2.1)).1 h⟩
  · cases h
theorem times_of {x y z a b c p q r : Int} (h1 : okF x y z = true) (h2 : okF a b c = true) (h3 : okF p q r = true) (e1 : p * (z * c) = (x * a - y * b) * r) (e2 : q * (z * c) = (x * b + y * a) * r) :
    timesF x y z a b c = some (p, q, r) := by
  unfold timesF
  rw [h1, h2]
  exact (low_iff (mul_pos1 (okF_bd h1).2.2.1 (okF_bd h2).2.2.1)).2 ⟨h3, e1, e2⟩

/-! Sums and differences. -/
theorem sum_comm {x y z a b c p q r : Int} (h : sumF 1 x y z a b c = some (p, q, r)) : sumF 1 a b c x y z = some (p, q, r) := by
  obtain ⟨h1, h2, h3, e1, e2⟩ := sum_some h
  exact sum_of h2 h1 h3 (by grind) (by grind)
theorem sum_back {x y z a b c p q r : Int} (h : sumF 1 x y z a b c = some (p, q, r)) : sumF (-1) p q r a b c = some (x, y, z) := by
  obtain ⟨h1, h2, h3, e1, e2⟩ := sum_some h
  exact sum_of h3 h2 h1 (by grind) (by grind)
theorem less_back {x y z a b c p q r : Int} (h : sumF (-1) x y z a b c = some (p, q, r)) : sumF 1 p q r a b c = some (x, y, z) := by
  obtain ⟨h1, h2, h3, e1, e2⟩ := sum_some h
  exact sum_of h3 h2 h1 (by grind) (by grind)
theorem less_swap {x y z a b c p q r : Int} (h : sumF (-1) x y z a b c = some (p, q, r)) : sumF (-1) a b c x y z = some (-p, -q, r) := by
  obtain ⟨h1, h2, h3, e1, e2⟩ := sum_some h
  exact sum_of h2 h1 (by rw [okF_neg2]; exact h3) (by grind) (by grind)
theorem less_self {x y z : Int} (h : okF x y z = true) : sumF (-1) x y z x y z = some (0, 0, 1) :=
  sum_of h h (by decide) (by grind) (by grind)
/-! Products and quotients. -/
theorem times_comm {x y z a b c p q r : Int} (h : timesF x y z a b c = some (p, q, r)) : timesF a b c x y z = some (p, q, r) := by
  obtain ⟨h1, h2, h3, e1, e2⟩ := times_some h
  exact times_of h2 h1 h3 (by grind) (by grind)
theorem over_some {x y z a b c p q r : Int} (h : overF x y z a b c = some (p, q, r)) :
    okF x y z = true ∧ okF a b c = true ∧ okF p q r = true ∧ 0 < a * a + b * b ∧ p * ((a * a + b * b) * z) = (x * a + y * b) * c * r ∧ q * ((a * a + b * b) * z) = (y * a - x * b) * c * r := by
  rw [over_eq] at h
  split at h
  · rename_i hk
    cases hl : lowE (a * c) (-b * c) (a * a + b * b) with
    | none => rw [hl] at h; cases h
    | some t =>
      obtain ⟨t1, t2, t3⟩ := t
      rw [hl] at h
      simp only [Option.bind_some] at h
      obtain ⟨h1, h2, h3, e1, e2⟩ := times_some h
      unfold lowE at hl
      split at hl
      · cases hl
      · rename_i hn
        obtain ⟨-, e3, e4⟩ := (low_iff (by omega)).1 hl
        have bt := (okF_bd h2).2.2.1
        refine ⟨h1, hk, h3, by omega, ?_, ?_⟩
        · refine Int.eq_of_mul_eq_mul_left (a := t3) (by omega) ?_
          grind
        · refine Int.eq_of_mul_eq_mul_left (a := t3) (by omega) ?_
          grind
  · cases h
theorem times_over {x y z a b c p q r u v t : Int} (h : timesF x y z a b c = some (p, q, r)) (k : overF p q r a b c = some (u, v, t)) : (u, v, t) = (x, y, z) := by
  obtain ⟨h1, h2, h3, e1, e2⟩ := times_some h
  obtain ⟨k1, k2, k3, hn, f1, f2⟩ := over_some k
  have bc := (okF_bd h2).2.2.1
  have br := (okF_bd h3).2.2.1
  refine uniqF k3 h1 ?_ ?_
  · refine Int.eq_of_mul_eq_mul_left (a := (a * a + b * b) * r * c) (Int.ne_of_gt (Int.mul_pos (Int.mul_pos hn (by omega)) (by omega))) ?_
    grind
  · refine Int.eq_of_mul_eq_mul_left (a := (a * a + b * b) * r * c) (Int.ne_of_gt (Int.mul_pos (Int.mul_pos hn (by omega)) (by omega))) ?_
    grind
theorem over_times {x y z a b c p q r u v t : Int} (h : overF x y z a b c = some (p, q, r)) (k : timesF p q r a b c = some (u, v, t)) : (u, v, t) = (x, y, z) := by
  obtain ⟨h1, h2, h3, hn, e1, e2⟩ := over_some h
  obtain ⟨k1, k2, k3, f1, f2⟩ := times_some k
  have bc := (okF_bd h2).2.2.1
  have br := (okF_bd h3).2.2.1
  refine uniqF k3 h1 ?_ ?_
  · refine Int.eq_of_mul_eq_mul_left (a := (a * a + b * b) * r * c) (Int.ne_of_gt (Int.mul_pos (Int.mul_pos hn (by omega)) (by omega))) ?_
    grind
  · refine Int.eq_of_mul_eq_mul_left (a := (a * a + b * b) * r * c) (Int.ne_of_gt (Int.mul_pos (Int.mul_pos hn (by omega)) (by omega))) ?_
    grind
/-! Powers. -/
theorem power_some {x y z p q r : Int} (h : powerF x y z = some (p, q, r)) : okF x y z = true ∧ okF p q r = true ∧ p * (z * z) = (x * x + y * y) * r ∧ q = 0 := by
  rw [power_eq] at h
  split at h
  · rename_i hk
    have bz := (okF_bd hk).2.2.1
    have hz := mul_pos1 bz bz
    unfold lowE at h
    rw [if_neg (by omega)] at h
    obtain ⟨h1, e1, e2⟩ := (low_iff hz).1 h
    refine ⟨hk, h1, e1, ?_⟩
    rw [Int.zero_mul] at e2
    rcases Int.mul_eq_zero.1 e2 with e | e
    · exact e
    · omega
  · cases h
theorem power_times {x y z a b c p q r u v t u' v' t' k l m k' l' m' : Int} (h : timesF x y z a b c = some (p, q, r)) (h1 : powerF x y z = some (u, v, t)) (h2 : powerF a b c = some (u', v', t'))
    (h3 : timesF u v t u' v' t' = some (k, l, m)) (h4 : powerF p q r = some (k', l', m')) : (k, l, m) = (k', l', m') := by
  obtain ⟨o1, o2, o3, e1, e2⟩ := times_some h
  obtain ⟨-, p1, f1, rfl⟩ := power_some h1
  obtain ⟨-, p2, f2, rfl⟩ := power_some h2
  obtain ⟨-, -, p3, g1, g2⟩ := times_some h3
  obtain ⟨-, p4, f4, rfl⟩ := power_some h4
  have bz := (okF_bd o1).2.2.1
  have bc := (okF_bd o2).2.2.1
  have br := (okF_bd o3).2.2.1
  have bt := (okF_bd p1).2.2.1
  have bt' := (okF_bd p2).2.2.1
  have hl : l = 0 := by
    have e : l * (t * t') = 0 := by grind
    rcases Int.mul_eq_zero.1 e with e | e
    · exact e
    · have := mul_pos1 bt bt'; omega
  subst hl
  refine uniqF p3 p4 ?_ (by grind)
  have P := Int.mul_pos (Int.mul_pos (Int.mul_pos (Int.mul_pos (Int.mul_pos (Int.mul_pos (Int.mul_pos (show 0 < t by omega) (show 0 < t' by omega)) (show 0 < r by omega)) (show 0 < r by omega)) (show 0 < z by omega)) (show 0 < z by omega)) (show 0 < c by omega)) (show 0 < c by omega)
  refine Int.eq_of_mul_eq_mul_left (a := t * t' * r * r * z * z * c * c) (Int.ne_of_gt P) ?_
  have s1 : k * m' * (t * t' * r * r * z * z * c * c) = (x * x + y * y) * (a * a + b * b) * t * t' * r * r * m * m' := by
    have : k * (t * t') = u * u' * m := by grind
    calc k * m' * (t * t' * r * r * z * z * c * c) = (k * (t * t')) * m' * r * r * z * z * c * c := by grind
      _ = (u * (z * z)) * (u' * (c * c)) * m * m' * r * r := by rw [this]; grind
      _ = _ := by rw [f1, f2]; grind
  have s2 : k' * m * (t * t' * r * r * z * z * c * c) = (x * x + y * y) * (a * a + b * b) * t * t' * r * r * m * m' := by
    calc k' * m * (t * t' * r * r * z * z * c * c) = (k' * (r * r)) * m * t * t' * z * z * c * c := by grind
      _ = ((p * (z * c)) * (p * (z * c)) + (q * (z * c)) * (q * (z * c))) * m * m' * t * t' := by rw [f4]; grind
      _ = _ := by rw [e1, e2]; grind
  rw [Int.mul_comm _ (k * m'), Int.mul_comm _ (k' * m), s1, s2]
theorem power_mirror {x y z : Int} : powerF x (-y) z = powerF x y z := by
  rw [power_eq, power_eq, okF_neg1]
  have : -y * -y = y * y := by grind
  rw [this]
theorem power_sign {x y z p q r : Int} (h : powerF x y z = some (p, q, r)) : 0 ≤ p ∧ (p = 0 ↔ x = 0 ∧ y = 0) := by
  obtain ⟨h1, h2, e1, -⟩ := power_some h
  have bz := (okF_bd h1).2.2.1
  have br := (okF_bd h2).2.2.1
  have hz := mul_pos1 bz bz
  have s : 0 ≤ x * x + y * y := by
    have a : 0 ≤ x * x := by
      rcases Int.le_total 0 x with h | h
      · exact Int.mul_nonneg h h
      · exact Int.mul_nonneg_of_nonpos_of_nonpos h h
    have b : 0 ≤ y * y := by
      rcases Int.le_total 0 y with h | h
      · exact Int.mul_nonneg h h
      · exact Int.mul_nonneg_of_nonpos_of_nonpos h h
    omega
  have s2 : 0 ≤ (x * x + y * y) * r := Int.mul_nonneg s (by omega)
  constructor
  · rcases Int.lt_or_le p 0 with h | h
    · have := Int.mul_neg_of_neg_of_pos h (show 0 < z * z by omega)
      omega
    · exact h
  · constructor
    · rintro rfl
      rw [Int.zero_mul] at e1
      rcases Int.mul_eq_zero.1 e1.symm with e | e
      · exact sq_zero e
      · omega
    · rintro ⟨rfl, rfl⟩
      have : p * (z * z) = 0 := by rw [e1]; grind
      rcases Int.mul_eq_zero.1 this with e | e
      · exact e
      · omega
/-! Making and mirroring. -/
theorem make_self {x y z : Int} (h : okF x y z = true) : makeF x y z = some (x, y, z) := by
  have b := okF_bd h
  have h1 := okF_low.1 h
  unfold lowE at h1
  rw [if_neg (by omega)] at h1
  unfold makeF inB
  rw [if_pos (by simp only [Bool.and_eq_true, decide_eq_true_eq]; omega)]
  exact h1
theorem make_ok {x y z p q r : Int} (h : makeF x y z = some (p, q, r)) : okF p q r = true := by
  unfold makeF at h
  split at h
  · rename_i hk
    simp only [Bool.and_eq_true] at hk
    exact ((low_iff (inB_bd hk.1.1).1).1 h).1
  · cases h
theorem make_twice {x y z p q r : Int} (h : makeF x y z = some (p, q, r)) {o : Int × Int × Int} (k : makeF (2 * x) (2 * y) (2 * z) = some o) : o = (p, q, r) := by
  unfold makeF at h k
  split at h
  · split at k
    · rw [lowF_scale (by omega), h] at k
      exact (Option.some.inj k).symm
    · cases k
  · cases h
/-! Orders. -/
theorem compare_some {x y z a b c n : Int} (h : compareF x y z a b c = some n) : okF x y z = true ∧ okF a b c = true ∧ y = 0 ∧ b = 0 ∧ n = signI (x * c - a * z) := by
  unfold compareF at h
  split at h
  · rename_i hk
    simp only [Bool.and_eq_true, decide_eq_true_eq] at hk
    exact ⟨hk.1.1.1, hk.1.1.2, hk.1.2, hk.2, (Option.some.inj h).symm⟩
  · cases h
theorem signI_neg (n : Int) : signI (-n) = -signI n := by
  unfold signI
  repeat' split
  all_goals omega
theorem compare_swap {x y z a b c n : Int} (h : compareF x y z a b c = some n) : compareF a b c x y z = some (-n) := by
  obtain ⟨h1, h2, h3, h4, rfl⟩ := compare_some h
  unfold compareF
  rw [h1, h2, h3, h4]
  simp only [Bool.and_self, decide_true, if_true]
  rw [← signI_neg]
  congr 2
  omega
theorem compare_same {x y z a b c n : Int} (h : compareF x y z a b c = some n) : n = 0 ↔ (x, y, z) = (a, b, c) := by
  obtain ⟨h1, h2, rfl, rfl, rfl⟩ := compare_some h
  constructor
  · intro e
    have : x * c - a * z = 0 := by unfold signI at e; split at e <;> (try split at e) <;> omega
    exact uniqF h1 h2 (by omega) (by grind)
  · intro e
    simp only [Prod.mk.injEq] at e
    obtain ⟨rfl, -, rfl⟩ := e
    unfold signI
    rw [if_neg (by omega), if_pos (by omega)]
theorem sign_pos {p n k r : Int} (hk : 0 < k) (hr : 0 < r) (e : p * k = n * r) : signI p = signI n := by
  unfold signI
  have a1 : p < 0 ↔ n < 0 := by
    constructor
    · intro h
      have := Int.mul_neg_of_neg_of_pos h hk
      rcases Int.lt_or_le n 0 with g | g
      · exact g
      · have := Int.mul_nonneg g (Int.le_of_lt hr); omega
    · intro h
      have := Int.mul_neg_of_neg_of_pos h hr
      rcases Int.lt_or_le p 0 with g | g
      · exact g
      · have := Int.mul_nonneg g (Int.le_of_lt hk); omega
  have a2 : p = 0 ↔ n = 0 := by
    constructor
    · rintro rfl
      rw [Int.zero_mul] at e
      rcases Int.mul_eq_zero.1 e.symm with e | e <;> omega
    · rintro rfl
      rw [Int.zero_mul] at e
      rcases Int.mul_eq_zero.1 e with e | e <;> omega
  split <;> split <;> (try split) <;> (try split) <;> omega
theorem compare_less {x y z a b c n p q r : Int} (h : compareF x y z a b c = some n) (k : sumF (-1) x y z a b c = some (p, q, r)) : signI p = n := by
  obtain ⟨h1, h2, rfl, rfl, rfl⟩ := compare_some h
  obtain ⟨-, -, h3, e1, -⟩ := sum_some k
  have bz := (okF_bd h1).2.2.1
  have bc := (okF_bd h2).2.2.1
  have br := (okF_bd h3).2.2.1
  refine sign_pos (k := z * c) (r := r) (Int.mul_pos (by omega) (by omega)) (by omega) ?_
  grind
end Go.Proofs.YtbihlkienhbapabDoor
