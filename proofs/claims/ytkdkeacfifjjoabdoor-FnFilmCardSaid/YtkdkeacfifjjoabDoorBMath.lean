/-
  Vectors, four numbers, matrices, directions as plain mathematics.
-/
import Derived.Test.YtkdkeacfifjjoabDoorBMathA
import Derived.Test.YtkdkeacfifjjoabDoorBSpecV
namespace Go.Proofs.YtkdkeacfifjjoabDoor
open Go.ChangeShapes Go.WideShapes Go.ChangeAt Go.RowKit
set_option linter.unusedVariables false

theorem mirror4_some {a1 a2 a3 b1 b2 b3 c1 c2 c3 d1 d2 d3 : Int} {o : ((Int × Int × Int) × (Int × Int × Int) × (Int × Int × Int) × (Int × Int × Int))} (h : smirrorF a1 a2 a3 b1 b2 b3 c1 c2 c3 d1 d2 d3 = some o) : sValid a1 a2 a3 b1 b2 b3 c1 c2 c3 d1 d2 d3 = true ∧ o = ((a1, a2, a3), (b1, b2, b3), (c1, c2, c3), (-d1, d2, d3)) := by
  unfold smirrorF at h
  split at h
  · rename_i hv
    exact ⟨hv, (Option.some.inj h).symm⟩
  · cases h
theorem okF_swap (x y z : Int) : okF x y z = okF y x z := by
  unfold okF
  rw [gcd3_nat, gcd3_nat, Nat.gcd_assoc, Nat.gcd_comm x.natAbs, ← Nat.gcd_assoc]
  cases partB x <;> cases partB y <;> rfl
theorem okF_neg1' (x y z : Int) : okF (-x) y z = okF x y z := by rw [okF_swap, okF_neg1, okF_swap]
theorem realB_neg (x y z : Int) : realB (-x) y z = realB x y z := by
  unfold realB
  rw [okF_neg1']
theorem sValid_neg (a1 a2 a3 b1 b2 b3 c1 c2 c3 d1 d2 d3 : Int) : sValid a1 a2 a3 b1 b2 b3 c1 c2 c3 (-d1) d2 d3 = sValid a1 a2 a3 b1 b2 b3 c1 c2 c3 d1 d2 d3 := by
  unfold sValid
  rw [realB_neg]
theorem mirror4_of {a1 a2 a3 b1 b2 b3 c1 c2 c3 d1 d2 d3 : Int} (h : sValid a1 a2 a3 b1 b2 b3 c1 c2 c3 d1 d2 d3 = true) : smirrorF a1 a2 a3 b1 b2 b3 c1 c2 c3 d1 d2 d3 = some ((a1, a2, a3), (b1, b2, b3), (c1, c2, c3), (-d1, d2, d3)) := by
  unfold smirrorF
  rw [if_pos h]
theorem mirror4_back {a1 a2 a3 b1 b2 b3 c1 c2 c3 d1 d2 d3 : Int} (h : sValid a1 a2 a3 b1 b2 b3 c1 c2 c3 d1 d2 d3 = true) : smirrorF a1 a2 a3 b1 b2 b3 c1 c2 c3 (-d1) d2 d3 = some ((a1, a2, a3), (b1, b2, b3), (c1, c2, c3), (d1, d2, d3)) := by
  have := mirror4_of ((sValid_neg a1 a2 a3 b1 b2 b3 c1 c2 c3 d1 d2 d3).trans h)
  rw [Int.neg_neg] at this
  exact this
theorem times_neg_neg (x z : Int) : timesF (-x) 0 z (-x) 0 z = timesF x 0 z x 0 z := by
  unfold timesF
  have := okF_neg2 x 0 z
  simp only [Int.neg_zero] at this
  rw [this, Int.neg_mul_neg]
  simp only [Int.mul_zero, Int.zero_mul]
theorem squares_neg (a1 a2 a3 b1 b2 b3 c1 c2 c3 d1 d2 d3 : Int) : squaresF a1 a2 a3 b1 b2 b3 c1 c2 c3 (-d1) d2 d3 = squaresF a1 a2 a3 b1 b2 b3 c1 c2 c3 d1 d2 d3 := by
  unfold squaresF
  rw [sValid_neg]
  split
  · rename_i hv
    obtain ⟨_, rfl⟩ := realB_ok (sValid_ok hv).2.2.2
    rw [times_neg_neg]
  · rfl
theorem light_neg (a1 a2 a3 b1 b2 b3 c1 c2 c3 d1 d2 d3 : Int) : lightF a1 a2 a3 b1 b2 b3 c1 c2 c3 (-d1) d2 d3 = lightF a1 a2 a3 b1 b2 b3 c1 c2 c3 d1 d2 d3 := by
  unfold lightF restF
  rw [squares_neg]
theorem times_one {x z : Int} (h : okF x 0 z = true) : timesF x 0 z 1 0 1 = some (x, 0, z) := by
  refine times_ofV h (by decide) h ?_ ?_
  · rw [rv_zero, rv_one]
    have : ((1 : Int) : Rat) = 1 := by exact_mod_cast rfl
    rw [this]; grind
  · rw [rv_zero, rv_zero, rv_one]; grind
theorem stimes_one {a1 a2 a3 b1 b2 b3 c1 c2 c3 d1 d2 d3 : Int} (h : sValid a1 a2 a3 b1 b2 b3 c1 c2 c3 d1 d2 d3 = true) : stimesF a1 a2 a3 b1 b2 b3 c1 c2 c3 d1 d2 d3 1 0 1 = some ((a1, a2, a3), (b1, b2, b3), (c1, c2, c3), (d1, d2, d3)) := by
  obtain ⟨ha, hb, hc, hd⟩ := sValid_ok h
  obtain ⟨ka, rfl⟩ := realB_ok ha
  obtain ⟨kb, rfl⟩ := realB_ok hb
  obtain ⟨kc, rfl⟩ := realB_ok hc
  obtain ⟨kd, rfl⟩ := realB_ok hd
  unfold stimesF
  rw [h, show realB 1 0 1 = true by decide]
  exact quad_of (times_one ka) (times_one kb) (times_one kc) (times_one kd)
theorem squares_sign {a1 a2 a3 b1 b2 b3 c1 c2 c3 d1 d2 d3 p q r : Int} (h : squaresF a1 a2 a3 b1 b2 b3 c1 c2 c3 d1 d2 d3 = some (p, q, r)) : 0 ≤ p ∧ q = 0 := by
  obtain ⟨_, k, e, ev⟩ := squares_val h
  refine ⟨(rv_nonneg (okF_den k)).1 ?_, e⟩
  rw [ev]
  have := sq_nonneg (rv b1 b3)
  have := sq_nonneg (rv c1 c3)
  have := sq_nonneg (rv d1 d3)
  grind
theorem sadd_some {a1 a2 a3 b1 b2 b3 c1 c2 c3 d1 d2 d3 i1 i2 i3 j1 j2 j3 k1 k2 k3 l1 l2 l3 s1 s2 s3 t1 t2 t3 u1 u2 u3 v1 v2 v3 : Int} (h : saddF a1 a2 a3 b1 b2 b3 c1 c2 c3 d1 d2 d3 i1 i2 i3 j1 j2 j3 k1 k2 k3 l1 l2 l3 = some ((s1, s2, s3), (t1, t2, t3), (u1, u2, u3), (v1, v2, v3))) : sValid a1 a2 a3 b1 b2 b3 c1 c2 c3 d1 d2 d3 = true ∧ sValid i1 i2 i3 j1 j2 j3 k1 k2 k3 l1 l2 l3 = true ∧ sumF 1 a1 a2 a3 i1 i2 i3 = some (s1, s2, s3) ∧ sumF 1 b1 b2 b3 j1 j2 j3 = some (t1, t2, t3) ∧ sumF 1 c1 c2 c3 k1 k2 k3 = some (u1, u2, u3) ∧ sumF 1 d1 d2 d3 l1 l2 l3 = some (v1, v2, v3) := by
  unfold saddF at h
  split at h
  · rename_i hv
    rw [Bool.and_eq_true] at hv
    exact ⟨hv.1, hv.2, quad_some h⟩
  · cases h
theorem sadd_comm {a1 a2 a3 b1 b2 b3 c1 c2 c3 d1 d2 d3 i1 i2 i3 j1 j2 j3 k1 k2 k3 l1 l2 l3 s1 s2 s3 t1 t2 t3 u1 u2 u3 v1 v2 v3 : Int} (h : saddF a1 a2 a3 b1 b2 b3 c1 c2 c3 d1 d2 d3 i1 i2 i3 j1 j2 j3 k1 k2 k3 l1 l2 l3 = some ((s1, s2, s3), (t1, t2, t3), (u1, u2, u3), (v1, v2, v3))) : saddF i1 i2 i3 j1 j2 j3 k1 k2 k3 l1 l2 l3 a1 a2 a3 b1 b2 b3 c1 c2 c3 d1 d2 d3 = some ((s1, s2, s3), (t1, t2, t3), (u1, u2, u3), (v1, v2, v3)) := by
  obtain ⟨h1, h2, e1, e2, e3, e4⟩ := sadd_some h
  unfold saddF
  rw [h1, h2]
  exact quad_of (sum_comm e1) (sum_comm e2) (sum_comm e3) (sum_comm e4)
/-- The inequality of Cauchy and Schwarz, for three numbers each. -/
theorem cauchy3 {A B C D I J K L : Rat} (h : B * B + C * C + D * D ≤ A * A) (k : J * J + K * K + L * L ≤ I * I) (hA : 0 ≤ A) (hI : 0 ≤ I) : B * J + C * K + D * L ≤ A * I := by
  have hAI := Rat.mul_nonneg hA hI
  have s1 := sq_nonneg (B * K - C * J)
  have s2 := sq_nonneg (B * L - D * J)
  have s3 := sq_nonneg (C * L - D * K)
  have hS : 0 ≤ B * B + C * C + D * D := by
    have := sq_nonneg B
    have := sq_nonneg C
    have := sq_nonneg D
    grind
  have m1 : (B * B + C * C + D * D) * (J * J + K * K + L * L) ≤ (B * B + C * C + D * D) * (I * I) := Rat.mul_le_mul_of_nonneg_left k hS
  have m2 : (B * B + C * C + D * D) * (I * I) ≤ A * A * (I * I) := Rat.mul_le_mul_of_nonneg_right h (sq_nonneg I)
  have l : (B * J + C * K + D * L) * (B * J + C * K + D * L) ≤ (A * I) * (A * I) := by
    have e : (B * J + C * K + D * L) * (B * J + C * K + D * L) = (B * B + C * C + D * D) * (J * J + K * K + L * L) - (B * K - C * J) * (B * K - C * J) - (B * L - D * J) * (B * L - D * J) - (C * L - D * K) * (C * L - D * K) := by grind
    have e2 : (A * I) * (A * I) = A * A * (I * I) := by grind
    rw [e, e2]
    generalize (B * B + C * C + D * D) * (J * J + K * K + L * L) = X at *
    generalize (B * B + C * C + D * D) * (I * I) = Y at *
    generalize A * A * (I * I) = Z at *
    generalize (B * K - C * J) * (B * K - C * J) = P at *
    generalize (B * L - D * J) * (B * L - D * J) = Q at *
    generalize (C * L - D * K) * (C * L - D * K) = R at *
    grind
  generalize B * J + C * K + D * L = P at *
  generalize A * I = Z at *
  rcases Rat.le_total (a := P) (b := Z) with g | g
  · exact g
  · by_cases e : Z = P
    · rw [e]; exact Rat.le_refl
    · have p1 : 0 < P - Z := by grind
      have p2 : 0 < P + Z := by grind
      have p3 := Rat.mul_pos p1 p2
      grind
theorem sadd_light {a1 a2 a3 b1 b2 b3 c1 c2 c3 d1 d2 d3 i1 i2 i3 j1 j2 j3 k1 k2 k3 l1 l2 l3 s1 s2 s3 t1 t2 t3 u1 u2 u3 v1 v2 v3 : Int} {p q : (Int × Int × Int)} (h : saddF a1 a2 a3 b1 b2 b3 c1 c2 c3 d1 d2 d3 i1 i2 i3 j1 j2 j3 k1 k2 k3 l1 l2 l3 = some ((s1, s2, s3), (t1, t2, t3), (u1, u2, u3), (v1, v2, v3))) (ha : lightF a1 a2 a3 b1 b2 b3 c1 c2 c3 d1 d2 d3 = true) (he : lightF i1 i2 i3 j1 j2 j3 k1 k2 k3 l1 l2 l3 = true) (hs : squaresF s1 s2 s3 t1 t2 t3 u1 u2 u3 v1 v2 v3 = some p) (ht : timesF s1 s2 s3 s1 s2 s3 = some q) : lightF s1 s2 s3 t1 t2 t3 u1 u2 u3 v1 v2 v3 = true := by
  obtain ⟨_, _, e1, e2, e3, e4⟩ := sadd_some h
  obtain ⟨_, _, _, f1⟩ := sum_val e1
  obtain ⟨_, _, _, f2⟩ := sum_val e2
  obtain ⟨_, _, _, f3⟩ := sum_val e3
  obtain ⟨_, _, _, f4⟩ := sum_val e4
  obtain ⟨_, _, _, g1, g2, _⟩ := light_val ha
  obtain ⟨_, _, _, kk1, kk2, _⟩ := light_val he
  refine light_of hs ht ?_ ?_
  · rw [f1.1, f2.1, f3.1, f4.1]
    have c := cauchy3 g1 kk1 g2 kk2
    generalize rv a1 a3 = A at *
    generalize rv b1 b3 = B at *
    generalize rv c1 c3 = C at *
    generalize rv d1 d3 = D at *
    generalize rv i1 i3 = I at *
    generalize rv j1 j3 = J at *
    generalize rv k1 k3 = K at *
    generalize rv l1 l3 = L at *
    grind
  · rw [f1.1]
    grind
theorem stimes_some {a1 a2 a3 b1 b2 b3 c1 c2 c3 d1 d2 d3 q1 q2 q3 s1 s2 s3 t1 t2 t3 u1 u2 u3 v1 v2 v3 : Int} (h : stimesF a1 a2 a3 b1 b2 b3 c1 c2 c3 d1 d2 d3 q1 q2 q3 = some ((s1, s2, s3), (t1, t2, t3), (u1, u2, u3), (v1, v2, v3))) : sValid a1 a2 a3 b1 b2 b3 c1 c2 c3 d1 d2 d3 = true ∧ realB q1 q2 q3 = true ∧ timesF a1 a2 a3 q1 q2 q3 = some (s1, s2, s3) ∧ timesF b1 b2 b3 q1 q2 q3 = some (t1, t2, t3) ∧ timesF c1 c2 c3 q1 q2 q3 = some (u1, u2, u3) ∧ timesF d1 d2 d3 q1 q2 q3 = some (v1, v2, v3) := by
  unfold stimesF at h
  split at h
  · rename_i hv
    rw [Bool.and_eq_true] at hv
    exact ⟨hv.1, hv.2, quad_some h⟩
  · cases h
theorem stimes_light {a1 a2 a3 b1 b2 b3 c1 c2 c3 d1 d2 d3 q1 q2 q3 s1 s2 s3 t1 t2 t3 u1 u2 u3 v1 v2 v3 : Int} {p q : (Int × Int × Int)} (h : stimesF a1 a2 a3 b1 b2 b3 c1 c2 c3 d1 d2 d3 q1 q2 q3 = some ((s1, s2, s3), (t1, t2, t3), (u1, u2, u3), (v1, v2, v3))) (h0 : 0 ≤ q1) (ha : lightF a1 a2 a3 b1 b2 b3 c1 c2 c3 d1 d2 d3 = true) (hs : squaresF s1 s2 s3 t1 t2 t3 u1 u2 u3 v1 v2 v3 = some p) (ht : timesF s1 s2 s3 s1 s2 s3 = some q) : lightF s1 s2 s3 t1 t2 t3 u1 u2 u3 v1 v2 v3 = true := by
  obtain ⟨hv, hq, e1, e2, e3, e4⟩ := stimes_some h
  obtain ⟨ka, kb, kc, kd⟩ := sValid_ok hv
  obtain ⟨_, rfl⟩ := realB_ok ka
  obtain ⟨_, rfl⟩ := realB_ok kb
  obtain ⟨_, rfl⟩ := realB_ok kc
  obtain ⟨_, rfl⟩ := realB_ok kd
  obtain ⟨kq, rfl⟩ := realB_ok hq
  obtain ⟨_, _, f1⟩ := times_real e1
  obtain ⟨_, _, f2⟩ := times_real e2
  obtain ⟨_, _, f3⟩ := times_real e3
  obtain ⟨_, _, f4⟩ := times_real e4
  obtain ⟨_, _, _, g1, g2, _⟩ := light_val ha
  have hq0 := (rv_nonneg (okF_den kq)).2 h0
  refine light_of hs ht ?_ ?_
  · rw [f1, f2, f3, f4]
    have c := Rat.mul_le_mul_of_nonneg_right g1 (sq_nonneg (rv q1 q3))
    generalize rv a1 a3 = A at *
    generalize rv b1 b3 = B at *
    generalize rv c1 c3 = C at *
    generalize rv d1 d3 = D at *
    generalize rv q1 q3 = Q at *
    grind
  · rw [f1]
    exact Rat.mul_nonneg g2 hq0
theorem mirror4_zero {a1 a2 a3 b1 b2 b3 c1 c2 c3 d1 d2 d3 : Int} (h : sValid a1 a2 a3 b1 b2 b3 c1 c2 c3 d1 d2 d3 = true) : sumF 1 (-d1) d2 d3 d1 d2 d3 = some (0, 0, 1) := by
  obtain ⟨kd, rfl⟩ := realB_ok (sValid_ok h).2.2.2
  have k2 : okF (-d1) 0 d3 = true := by
    have := okF_neg2 d1 0 d3
    simp only [Int.neg_zero] at this
    rw [this]; exact kd
  refine sum_ofV k2 kd (by decide) ?_ ?_
  · rw [rv_zero, rv_neg]; grind
  · rw [rv_zero, rv_zero]; grind

theorem squares_ok {a1 a2 a3 b1 b2 b3 c1 c2 c3 d1 d2 d3 p q r : Int} (h : squaresF a1 a2 a3 b1 b2 b3 c1 c2 c3 d1 d2 d3 = some (p, q, r)) : okF p q r = true := (squares_val h).2.1
theorem power_turn (x y z : Int) : powerF (-y) x z = powerF x y z := by
  rw [power_eq, power_eq, okF_swap, okF_neg1, show -y * -y + x * x = x * x + y * y by grind]
theorem times_i {x y z p q r : Int} (h : timesF x y z 0 1 1 = some (p, q, r)) : okF x y z = true ∧ p = -y ∧ q = x ∧ r = z := by
  obtain ⟨k, _, k2, e1, e2⟩ := times_val h
  have o : ((1 : Int) : Rat) = 1 := by exact_mod_cast rfl
  rw [rv_zero, rv_one, o] at e1 e2
  have k3 : okF (-y) x z = true := by rw [okF_swap, okF_neg1]; exact k
  have := uniqV k2 k3 (by rw [e1, rv_neg]; grind) (by rw [e2]; grind)
  obtain ⟨⟩ := this
  exact ⟨k, rfl, rfl, rfl⟩
theorem cross_turn {x1 x2 x3 y1 y2 y3 : Int} (hy : okF y1 y2 y3 = true) (hx : okF x1 x2 x3 = true) : crossO (-x2) x1 x3 (-y2) y1 y3 = crossO x1 x2 x3 y1 y2 y3 := by
  have kx : okF (-x2) x1 x3 = true := by rw [okF_swap, okF_neg1]; exact hx
  have ky : okF (-y2) y1 y3 = true := by rw [okF_swap, okF_neg1]; exact hy
  have ky2 : okF (-y2) (-y1) y3 = true := by rw [okF_neg1]; exact ky
  have ky3 : okF y1 (-y2) y3 = true := by rw [okF_neg1]; exact hy
  unfold crossO mirrorF
  rw [if_pos hy, if_pos ky]
  simp only [Option.bind_some]
  unfold timesF
  rw [kx, hx, ky2, ky3, show -x2 * -y2 - x1 * -y1 = x1 * y1 - x2 * -y2 by grind, show -x2 * -y1 + x1 * -y2 = x1 * -y2 + x2 * y1 by grind]
theorem sof_turn {x1 x2 x3 y1 y2 y3 p1 p2 p3 q1 q2 q3 : Int} (h : jtimesF x1 x2 x3 y1 y2 y3 0 1 1 = some ((p1, p2, p3), (q1, q2, q3))) : sofF p1 p2 p3 q1 q2 q3 = sofF x1 x2 x3 y1 y2 y3 := by
  obtain ⟨h1, h2⟩ := pair_some h
  obtain ⟨kx, rfl, rfl, rfl⟩ := times_i h1
  obtain ⟨ky, rfl, rfl, rfl⟩ := times_i h2
  unfold sofF jpowF
  rw [power_turn, power_turn, cross_turn ky kx]
theorem reO_some {o : Option (Int × Int × Int)} {p q r : Int} (h : reO o = some (p, q, r)) : ∃ c1 c2 c3, o = some (c1, c2, c3) ∧ makeF (2 * c1) 0 c3 = some (p, q, r) := by
  cases o with
  | none => cases h
  | some c =>
    obtain ⟨c1, c2, c3⟩ := c
    exact ⟨c1, c2, c3, rfl, h⟩
theorem imO_some {o : Option (Int × Int × Int)} {p q r : Int} (h : imO o = some (p, q, r)) : ∃ c1 c2 c3, o = some (c1, c2, c3) ∧ makeF (2 * c2) 0 c3 = some (p, q, r) := by
  cases o with
  | none => cases h
  | some c =>
    obtain ⟨c1, c2, c3⟩ := c
    exact ⟨c1, c2, c3, rfl, h⟩
theorem crossO_some {x1 x2 x3 y1 y2 y3 c1 c2 c3 : Int} (h : crossO x1 x2 x3 y1 y2 y3 = some (c1, c2, c3)) : okF y1 y2 y3 = true ∧ timesF x1 x2 x3 y1 (-y2) y3 = some (c1, c2, c3) := by
  unfold crossO mirrorF at h
  split at h
  · rename_i hk
    exact ⟨hk, h⟩
  · cases h
theorem sof_some {x1 x2 x3 y1 y2 y3 s1 s2 s3 t1 t2 t3 u1 u2 u3 v1 v2 v3 : Int} (h : sofF x1 x2 x3 y1 y2 y3 = some ((s1, s2, s3), (t1, t2, t3), (u1, u2, u3), (v1, v2, v3))) : jpowF x1 x2 x3 y1 y2 y3 = some (s1, s2, s3) ∧ lessO (powerF x1 x2 x3) (powerF y1 y2 y3) = some (t1, t2, t3) ∧ reO (crossO x1 x2 x3 y1 y2 y3) = some (u1, u2, u3) ∧ imO (crossO x1 x2 x3 y1 y2 y3) = some (v1, v2, v3) := quad_some h
theorem sof_val {x1 x2 x3 y1 y2 y3 s1 s2 s3 t1 t2 t3 u1 u2 u3 v1 v2 v3 : Int} (h : sofF x1 x2 x3 y1 y2 y3 = some ((s1, s2, s3), (t1, t2, t3), (u1, u2, u3), (v1, v2, v3))) :
    (okF s1 s2 s3 = true ∧ s2 = 0 ∧ okF t1 t2 t3 = true ∧ t2 = 0 ∧ okF u1 u2 u3 = true ∧ u2 = 0 ∧ okF v1 v2 v3 = true ∧ v2 = 0) ∧ okF x1 x2 x3 = true ∧ okF y1 y2 y3 = true ∧
    rv s1 s3 = rv x1 x3 * rv x1 x3 + rv x2 x3 * rv x2 x3 + (rv y1 y3 * rv y1 y3 + rv y2 y3 * rv y2 y3) ∧ rv t1 t3 = rv x1 x3 * rv x1 x3 + rv x2 x3 * rv x2 x3 - (rv y1 y3 * rv y1 y3 + rv y2 y3 * rv y2 y3) ∧
    rv u1 u3 = 2 * (rv x1 x3 * rv y1 y3 + rv x2 x3 * rv y2 y3) ∧ rv v1 v3 = 2 * (rv x2 x3 * rv y1 y3 - rv x1 x3 * rv y2 y3) := by
  obtain ⟨h1, h2, h3, h4⟩ := sof_some h
  obtain ⟨kx, ky, k1, e1, -, rfl⟩ := jpow_val h1
  obtain ⟨a1, a2, a3, b1, b2, b3, g1, g2, g3⟩ := lessO_some h2
  obtain ⟨-, -, p1, -, rfl⟩ := power_val g1
  obtain ⟨-, -, p2, -, rfl⟩ := power_val g2
  obtain ⟨_, _, k2, e2, e2'⟩ := less_val g3
  rw [rv_zero, rv_zero] at e2'
  have t0 : t2 = 0 := real0 k2 (by rw [e2']; grind)
  obtain ⟨c1, c2, c3, f1, f2⟩ := reO_some h3
  obtain ⟨c1', c2', c3', f1', f2'⟩ := imO_some h4
  rw [f1] at f1'
  obtain ⟨⟩ := f1'
  obtain ⟨_, hc⟩ := crossO_some f1
  obtain ⟨_, _, kc, ec1, ec2⟩ := times_val hc
  rw [rv_neg] at ec1 ec2
  obtain ⟨k3, u0, e3⟩ := make_val (okF_den kc) f2
  obtain ⟨k4, v0, e4⟩ := make_val (okF_den kc) f2'
  refine ⟨⟨k1, rfl, k2, t0, k3, u0, k4, v0⟩, kx, ky, e1, by rw [e2, p1, p2], by rw [e3, ec1]; grind, by rw [e4, ec2]; grind⟩
theorem sof_ok {x1 x2 x3 y1 y2 y3 s1 s2 s3 t1 t2 t3 u1 u2 u3 v1 v2 v3 : Int} (h : sofF x1 x2 x3 y1 y2 y3 = some ((s1, s2, s3), (t1, t2, t3), (u1, u2, u3), (v1, v2, v3))) : okF s1 s2 s3 = true ∧ okF t1 t2 t3 = true ∧ okF u1 u2 u3 = true ∧ okF v1 v2 v3 = true := by
  obtain ⟨⟨k1, -, k2, -, k3, -, k4, -⟩, -⟩ := sof_val h
  exact ⟨k1, k2, k3, k4⟩
theorem sof_valid {x1 x2 x3 y1 y2 y3 s1 s2 s3 t1 t2 t3 u1 u2 u3 v1 v2 v3 : Int} (h : sofF x1 x2 x3 y1 y2 y3 = some ((s1, s2, s3), (t1, t2, t3), (u1, u2, u3), (v1, v2, v3))) : sValid s1 s2 s3 t1 t2 t3 u1 u2 u3 v1 v2 v3 = true := by
  obtain ⟨⟨k1, rfl, k2, rfl, k3, rfl, k4, rfl⟩, -⟩ := sof_val h
  unfold sValid realB
  rw [k1, k2, k3, k4]
  rfl
theorem sof_pure {x1 x2 x3 y1 y2 y3 s1 s2 s3 t1 t2 t3 u1 u2 u3 v1 v2 v3 : Int} {p q : (Int × Int × Int)} (h : sofF x1 x2 x3 y1 y2 y3 = some ((s1, s2, s3), (t1, t2, t3), (u1, u2, u3), (v1, v2, v3))) (hs : squaresF s1 s2 s3 t1 t2 t3 u1 u2 u3 v1 v2 v3 = some p) (ht : timesF s1 s2 s3 s1 s2 s3 = some q) : pureF s1 s2 s3 t1 t2 t3 u1 u2 u3 v1 v2 v3 = true := by
  obtain ⟨-, -, -, e1, e2, e3, e4⟩ := sof_val h
  refine pure_of hs ht ?_ ?_
  · rw [e1, e2, e3, e4]; grind
  · rw [e1]
    have := sq_nonneg (rv x1 x3)
    have := sq_nonneg (rv x2 x3)
    have := sq_nonneg (rv y1 y3)
    have := sq_nonneg (rv y2 y3)
    generalize rv x1 x3 * rv x1 x3 = a at *
    generalize rv x2 x3 * rv x2 x3 = b at *
    generalize rv y1 y3 * rv y1 y3 = c at *
    generalize rv y2 y3 * rv y2 y3 = d at *
    grind
theorem sof_power {x1 x2 x3 y1 y2 y3 s1 s2 s3 t1 t2 t3 u1 u2 u3 v1 v2 v3 : Int} (h : sofF x1 x2 x3 y1 y2 y3 = some ((s1, s2, s3), (t1, t2, t3), (u1, u2, u3), (v1, v2, v3))) : jpowF x1 x2 x3 y1 y2 y3 = some (s1, s2, s3) := (sof_some h).1
theorem make_neg {n d p q r : Int} (hd : 1 ≤ d) (h : makeF (2 * n) 0 d = some (p, q, r)) : makeF (2 * -n) 0 d = some (-p, q, r) := by
  have hq := (make_val hd h).2.1
  subst hq
  unfold makeF at h ⊢
  split at h
  · rename_i hb
    have hb2 : (inB d 1 1000000000000000000 && inB (2 * -n) (-1000000000000000000) 1000000000000000000 && inB 0 (-1000000000000000000) 1000000000000000000) = true := by
      unfold inB at hb ⊢
      simp only [Bool.and_eq_true, decide_eq_true_eq] at hb ⊢
      omega
    rw [if_pos hb2]
    obtain ⟨k, e1, e2⟩ := (low_iff hd).1 h
    refine (low_iff hd).2 ⟨?_, ?_, e2⟩
    · have := okF_neg2 p 0 r
      simp only [Int.neg_zero] at this
      rw [this]; exact k
    · rw [Int.neg_mul, e1]; grind
  · cases h
theorem sof_mirror {x1 x2 x3 y1 y2 y3 s1 s2 s3 t1 t2 t3 u1 u2 u3 v1 v2 v3 : Int} (h : sofF x1 x2 x3 y1 y2 y3 = some ((s1, s2, s3), (t1, t2, t3), (u1, u2, u3), (v1, v2, v3))) : sofF x1 (-x2) x3 y1 (-y2) y3 = some ((s1, s2, s3), (t1, t2, t3), (u1, u2, u3), (-v1, v2, v3)) := by
  obtain ⟨h1, h2, h3, h4⟩ := sof_some h
  obtain ⟨c1, c2, c3, f1, f2⟩ := reO_some h3
  obtain ⟨c1', c2', c3', f1', f2'⟩ := imO_some h4
  rw [f1] at f1'
  obtain ⟨⟩ := f1'
  obtain ⟨ky, hc⟩ := crossO_some f1
  have kc := (times_val hc).2.2.1
  have hcr : crossO x1 (-x2) x3 y1 (-y2) y3 = some (c1, -c2, c3) := by
    unfold crossO mirrorF
    rw [if_pos (by rw [okF_neg1]; exact ky), Int.neg_neg]
    exact times_comm (times_swap hc ky)
  unfold sofF
  refine quad_of ?_ ?_ ?_ ?_
  · unfold jpowF at h1 ⊢
    rw [power_mirror, power_mirror]; exact h1
  · rw [power_mirror, power_mirror]; exact h2
  · rw [hcr]; exact f2
  · rw [hcr]; exact make_neg (okF_den kc) f2'
theorem jmirror_some {x1 x2 x3 y1 y2 y3 : Int} {o : (Int × Int × Int) × (Int × Int × Int)} (h : jmirrorF x1 x2 x3 y1 y2 y3 = some o) : okF x1 x2 x3 = true ∧ okF y1 y2 y3 = true ∧ o = ((x1, -x2, x3), (y1, -y2, y3)) := by
  unfold jmirrorF at h
  obtain ⟨u, v⟩ := o
  obtain ⟨h1, h2⟩ := pair_some h
  unfold mirrorF at h1 h2
  split at h1
  · split at h2
    · rename_i k1 k2
      cases h1
      cases h2
      exact ⟨k1, k2, rfl⟩
    · cases h2
  · cases h1
theorem jmirror_of {x1 x2 x3 y1 y2 y3 : Int} (h : okF x1 x2 x3 = true) (k : okF y1 y2 y3 = true) : jmirrorF x1 x2 x3 y1 y2 y3 = some ((x1, -x2, x3), (y1, -y2, y3)) := by
  unfold jmirrorF
  refine pair_of ?_ ?_ <;> unfold mirrorF <;> rw [if_pos (by assumption)]
theorem jmirror_back {x1 x2 x3 y1 y2 y3 : Int} (h : okF x1 x2 x3 = true) (k : okF y1 y2 y3 = true) : jmirrorF x1 (-x2) x3 y1 (-y2) y3 = some ((x1, x2, x3), (y1, y2, y3)) := by
  have := jmirror_of ((okF_neg1 x1 x2 x3).trans h) ((okF_neg1 y1 y2 y3).trans k)
  rw [Int.neg_neg, Int.neg_neg] at this
  exact this

theorem timesF_comm (x y z a b c : Int) : timesF x y z a b c = timesF a b c x y z := by
  unfold timesF
  rw [Bool.and_comm, Int.mul_comm x a, Int.mul_comm y b, Int.mul_comm x b, Int.mul_comm y a, Int.mul_comm z c, Int.add_comm]
theorem prodB_swap {u1 u2 u3 v1 v2 v3 s1 s2 s3 t1 t2 t3 : Int} (h : prodB u1 u2 u3 v1 v2 v3 s1 s2 s3 t1 t2 t3 = true) : prodB s1 s2 s3 t1 t2 t3 u1 u2 u3 v1 v2 v3 = true := by
  unfold prodB at h ⊢
  rw [Bool.and_eq_true, beq_iff_eq] at h ⊢
  rw [timesF_comm s1, timesF_comm t1, ← h.2]
  exact ⟨h.1, rfl⟩
theorem prodB_val {u1 u3 v1 v3 s1 s3 t1 t3 : Int} (h : prodB u1 0 u3 v1 0 v3 s1 0 s3 t1 0 t3 = true) : rv u1 u3 * rv t1 t3 = rv v1 v3 * rv s1 s3 := by
  unfold prodB at h
  rw [Bool.and_eq_true, beq_iff_eq] at h
  obtain ⟨⟨p, q, r⟩, hp⟩ := Option.isSome_iff_exists.1 h.1
  have hq := h.2.symm.trans hp
  rw [← (times_real hp).2.2, (times_real hq).2.2]
theorem prod_told {x z a c : Int} (h1 : okF x 0 z = true) (h2 : okF a 0 c = true) (b1 : -10000 < x ∧ x < 10000 ∧ z < 10000) (b2 : -10000 < a ∧ a < 10000 ∧ c < 10000) : ∃ p r, timesF x 0 z a 0 c = some (p, 0, r) ∧ okF p 0 r = true ∧ rv p r = rv x z * rv a c := by
  have z1 := okF_den h1
  have c1 := okF_den h2
  have m1 : z * c ≤ 9999 * 9999 := Int.mul_le_mul (by omega) (by omega) (by omega) (by omega)
  have m2 : (x * a).natAbs ≤ 9999 * 9999 := by
    rw [Int.natAbs_mul]
    exact Nat.mul_le_mul (by omega) (by omega)
  obtain ⟨p, q, r, e⟩ := low_told (x := x * a - 0 * 0) (y := x * 0 + 0 * a) (mul_pos1 z1 c1) (by omega) (by omega) (by omega)
  have ht : timesF x 0 z a 0 c = some (p, q, r) := by
    unfold timesF
    rw [h1, h2]
    exact e
  obtain ⟨k, rfl, ev⟩ := times_real ht
  exact ⟨p, r, ht, k, ev⟩
theorem prod_same {u1 u3 v1 v3 s1 s3 t1 t3 : Int} (hu : okF u1 0 u3 = true) (hv : okF v1 0 v3 = true) (hs : okF s1 0 s3 = true) (ht : okF t1 0 t3 = true)
    (bu : -10000 < u1 ∧ u1 < 10000 ∧ u3 < 10000) (bv : -10000 < v1 ∧ v1 < 10000 ∧ v3 < 10000) (bs : -10000 < s1 ∧ s1 < 10000 ∧ s3 < 10000) (bt : -10000 < t1 ∧ t1 < 10000 ∧ t3 < 10000)
    (e : rv u1 u3 * rv t1 t3 = rv v1 v3 * rv s1 s3) : prodB u1 0 u3 v1 0 v3 s1 0 s3 t1 0 t3 = true := by
  obtain ⟨p, r, h1, k1, e1⟩ := prod_told hu ht bu bt
  obtain ⟨p', r', h2, k2, e2⟩ := prod_told hv hs bv bs
  have := uniqV k1 k2 (by rw [e1, e2, e]) (by rw [rv_zero, rv_zero])
  unfold prodB
  rw [h1, h2, this]
  simp
theorem signI_same {x z a c : Int} (hz : 1 ≤ z) (hc : 1 ≤ c) (h1 : 0 ≤ rv x z) (h2 : 0 ≤ rv a c) (h : rv x z = 0 ↔ rv a c = 0) : signI x = signI a := by
  have k1 := (rv_nonneg hz).1 h1
  have k2 := (rv_nonneg hc).1 h2
  rw [rv_is0 hz, rv_is0 hc] at h
  unfold signI
  split
  · omega
  · split
    · omega
    · rw [if_neg (by omega), if_neg (by omega)]
/-- Small four numbers in the same proportions are alike. -/
theorem salike_of {a1 a3 b1 b3 c1 c3 d1 d3 i1 i3 j1 j3 k1 k3 l1 l3 : Int} (hv : sValid a1 0 a3 b1 0 b3 c1 0 c3 d1 0 d3 = true) (he : sValid i1 0 i3 j1 0 j3 k1 0 k3 l1 0 l3 = true) (hs : signI a1 = signI i1) (ba : -10000 < a1 ∧ a1 < 10000 ∧ a3 < 10000 ∧ -10000 < b1 ∧ b1 < 10000 ∧ b3 < 10000 ∧ -10000 < c1 ∧ c1 < 10000 ∧ c3 < 10000 ∧ -10000 < d1 ∧ d1 < 10000 ∧ d3 < 10000) (be : -10000 < i1 ∧ i1 < 10000 ∧ i3 < 10000 ∧ -10000 < j1 ∧ j1 < 10000 ∧ j3 < 10000 ∧ -10000 < k1 ∧ k1 < 10000 ∧ k3 < 10000 ∧ -10000 < l1 ∧ l1 < 10000 ∧ l3 < 10000)
    (e10 : rv b1 b3 * rv i1 i3 = rv a1 a3 * rv j1 j3) (e20 : rv c1 c3 * rv i1 i3 = rv a1 a3 * rv k1 k3) (e21 : rv c1 c3 * rv j1 j3 = rv b1 b3 * rv k1 k3) (e30 : rv d1 d3 * rv i1 i3 = rv a1 a3 * rv l1 l3) (e31 : rv d1 d3 * rv j1 j3 = rv b1 b3 * rv l1 l3) (e32 : rv d1 d3 * rv k1 k3 = rv c1 c3 * rv l1 l3) : salikeF a1 0 a3 b1 0 b3 c1 0 c3 d1 0 d3 i1 0 i3 j1 0 j3 k1 0 k3 l1 0 l3 = true := by
  obtain ⟨ga, gb, gc, gd⟩ := sValid_ok hv
  obtain ⟨gi, gj, gk, gl⟩ := sValid_ok he
  have ka := (realB_ok ga).1
  have kb := (realB_ok gb).1
  have kc := (realB_ok gc).1
  have kd := (realB_ok gd).1
  have ki := (realB_ok gi).1
  have kj := (realB_ok gj).1
  have kk := (realB_ok gk).1
  have kl := (realB_ok gl).1
  unfold salikeF
  rw [hv, he, hs]
  simp only [BEq.rfl, Bool.true_and, Bool.and_eq_true]
  refine ⟨⟨⟨⟨⟨?_, ?_⟩, ?_⟩, ?_⟩, ?_⟩, ?_⟩
  · exact prod_same kb ka kj ki (by omega) (by omega) (by omega) (by omega) e10
  · exact prod_same kc ka kk ki (by omega) (by omega) (by omega) (by omega) e20
  · exact prod_same kc kb kk kj (by omega) (by omega) (by omega) (by omega) e21
  · exact prod_same kd ka kl ki (by omega) (by omega) (by omega) (by omega) e30
  · exact prod_same kd kb kl kj (by omega) (by omega) (by omega) (by omega) e31
  · exact prod_same kd kc kl kk (by omega) (by omega) (by omega) (by omega) e32
theorem salike_some {a1 a2 a3 b1 b2 b3 c1 c2 c3 d1 d2 d3 i1 i2 i3 j1 j2 j3 k1 k2 k3 l1 l2 l3 : Int} (h : salikeF a1 a2 a3 b1 b2 b3 c1 c2 c3 d1 d2 d3 i1 i2 i3 j1 j2 j3 k1 k2 k3 l1 l2 l3 = true) : sValid a1 a2 a3 b1 b2 b3 c1 c2 c3 d1 d2 d3 = true ∧ sValid i1 i2 i3 j1 j2 j3 k1 k2 k3 l1 l2 l3 = true ∧ signI a1 = signI i1 ∧ prodB b1 b2 b3 a1 a2 a3 j1 j2 j3 i1 i2 i3 = true ∧ prodB c1 c2 c3 a1 a2 a3 k1 k2 k3 i1 i2 i3 = true ∧ prodB c1 c2 c3 b1 b2 b3 k1 k2 k3 j1 j2 j3 = true ∧ prodB d1 d2 d3 a1 a2 a3 l1 l2 l3 i1 i2 i3 = true ∧ prodB d1 d2 d3 b1 b2 b3 l1 l2 l3 j1 j2 j3 = true ∧ prodB d1 d2 d3 c1 c2 c3 l1 l2 l3 k1 k2 k3 = true := by
  unfold salikeF at h
  simp only [Bool.and_eq_true, beq_iff_eq] at h
  obtain ⟨⟨⟨⟨⟨⟨⟨⟨h1, h2⟩, h3⟩, h4⟩, h5⟩, h6⟩, h7⟩, h8⟩, h9⟩ := h
  exact ⟨h1, h2, h3, h4, h5, h6, h7, h8, h9⟩
theorem salike_swap {a1 a2 a3 b1 b2 b3 c1 c2 c3 d1 d2 d3 i1 i2 i3 j1 j2 j3 k1 k2 k3 l1 l2 l3 : Int} (h : salikeF a1 a2 a3 b1 b2 b3 c1 c2 c3 d1 d2 d3 i1 i2 i3 j1 j2 j3 k1 k2 k3 l1 l2 l3 = true) : salikeF i1 i2 i3 j1 j2 j3 k1 k2 k3 l1 l2 l3 a1 a2 a3 b1 b2 b3 c1 c2 c3 d1 d2 d3 = true := by
  obtain ⟨h1, h2, h3, h4, h5, h6, h7, h8, h9⟩ := salike_some h
  unfold salikeF
  rw [h1, h2, h3, prodB_swap h4, prodB_swap h5, prodB_swap h6, prodB_swap h7, prodB_swap h8, prodB_swap h9]
  simp
theorem signI_pos {n : Int} (h : signI n = 1) : 0 < n := by
  unfold signI at h
  split at h
  · cases h
  · split at h
    · exact absurd h (by decide)
    · omega
/-- Light that is alike to pure light is pure. -/
theorem salike_pure {a1 a2 a3 b1 b2 b3 c1 c2 c3 d1 d2 d3 i1 i2 i3 j1 j2 j3 k1 k2 k3 l1 l2 l3 : Int} {p q r s : (Int × Int × Int)} (h : salikeF a1 a2 a3 b1 b2 b3 c1 c2 c3 d1 d2 d3 i1 i2 i3 j1 j2 j3 k1 k2 k3 l1 l2 l3 = true) (h0 : ¬ a1 = 0) (hp : squaresF i1 i2 i3 j1 j2 j3 k1 k2 k3 l1 l2 l3 = some q) (hr : timesF i1 i2 i3 i1 i2 i3 = some s) (ha : pureF a1 a2 a3 b1 b2 b3 c1 c2 c3 d1 d2 d3 = true) : pureF i1 i2 i3 j1 j2 j3 k1 k2 k3 l1 l2 l3 = true := by
  obtain ⟨hv, he, h3, h4, h5, h6, h7, h8, h9⟩ := salike_some h
  obtain ⟨-, -, -, e, n0⟩ := pure_val ha
  obtain ⟨ga, gb, gc, gd⟩ := sValid_ok hv
  obtain ⟨gi, gj, gk, gl⟩ := sValid_ok he
  obtain ⟨ka, rfl⟩ := realB_ok ga
  obtain ⟨_, rfl⟩ := realB_ok gb
  obtain ⟨_, rfl⟩ := realB_ok gc
  obtain ⟨_, rfl⟩ := realB_ok gd
  obtain ⟨ki, rfl⟩ := realB_ok gi
  obtain ⟨_, rfl⟩ := realB_ok gj
  obtain ⟨_, rfl⟩ := realB_ok gk
  obtain ⟨_, rfl⟩ := realB_ok gl
  have m4 := prodB_val h4
  have m5 := prodB_val h5
  have m7 := prodB_val h7
  have a0 := (rv_nonneg (okF_den ka)).1 n0
  have ap : 0 < a1 := by omega
  have ip : 0 < i1 := by
    refine signI_pos (h3.symm.trans ?_)
    unfold signI
    rw [if_neg (by omega), if_neg (by omega)]
  have nz : ¬ rv a1 a3 = 0 := fun z => by
    have := (rv_is0 (okF_den ka)).1 z
    omega
  refine pure_of hp hr ?_ ((rv_nonneg (okF_den ki)).2 (by omega))
  generalize rv a1 a3 = A at *
  generalize rv b1 b3 = B at *
  generalize rv c1 c3 = C at *
  generalize rv d1 d3 = D at *
  generalize rv i1 i3 = I at *
  generalize rv j1 j3 = J at *
  generalize rv k1 k3 = K at *
  generalize rv l1 l3 = L at *
  have f1 : (J * J) * (A * A) = (B * B) * (I * I) := by grind
  have f2 : (K * K) * (A * A) = (C * C) * (I * I) := by grind
  have f3 : (L * L) * (A * A) = (D * D) * (I * I) := by grind
  have f4 : (I * I - (J * J + K * K + L * L)) * (A * A) = 0 := by grind
  grind
theorem salike_pure2 {a1 a2 a3 b1 b2 b3 c1 c2 c3 d1 d2 d3 i1 i2 i3 j1 j2 j3 k1 k2 k3 l1 l2 l3 : Int} {p q r s : (Int × Int × Int)} (h : salikeF a1 a2 a3 b1 b2 b3 c1 c2 c3 d1 d2 d3 i1 i2 i3 j1 j2 j3 k1 k2 k3 l1 l2 l3 = true) (h0 : ¬ a1 = 0) (hp : squaresF a1 a2 a3 b1 b2 b3 c1 c2 c3 d1 d2 d3 = some p) (hr : timesF a1 a2 a3 a1 a2 a3 = some r) (hq : squaresF i1 i2 i3 j1 j2 j3 k1 k2 k3 l1 l2 l3 = some q) (hs : timesF i1 i2 i3 i1 i2 i3 = some s) : pureF a1 a2 a3 b1 b2 b3 c1 c2 c3 d1 d2 d3 = pureF i1 i2 i3 j1 j2 j3 k1 k2 k3 l1 l2 l3 := by
  have i0 : ¬ i1 = 0 := by
    intro e
    have := (salike_some h).2.2.1
    rw [e] at this
    exact h0 (signI_is0.1 (this.trans (by decide)))
  cases hx : pureF a1 a2 a3 b1 b2 b3 c1 c2 c3 d1 d2 d3 with
  | true => exact (salike_pure (p := p) (r := r) h h0 hq hs hx).symm
  | false =>
    cases hy : pureF i1 i2 i3 j1 j2 j3 k1 k2 k3 l1 l2 l3 with
    | false => rfl
    | true => exact hx.symm.trans (salike_pure (p := p) (r := r) (salike_swap h) i0 hp hr hy)

theorem alike_val {x1 x2 x3 y1 y2 y3 a1 a2 a3 b1 b2 b3 : Int} (h : alikeF x1 x2 x3 y1 y2 y3 a1 a2 a3 b1 b2 b3 = true) : rv x1 x3 * rv b1 b3 - rv x2 x3 * rv b2 b3 = rv y1 y3 * rv a1 a3 - rv y2 y3 * rv a2 a3 ∧ rv x1 x3 * rv b2 b3 + rv x2 x3 * rv b1 b3 = rv y1 y3 * rv a2 a3 + rv y2 y3 * rv a1 a3 ∧ darkB x1 x2 x3 y1 y2 y3 = darkB a1 a2 a3 b1 b2 b3 := by
  cases h1 : timesF x1 x2 x3 b1 b2 b3 with
  | none => rw [alike_none1 h1] at h; cases h
  | some u =>
    cases h2 : timesF y1 y2 y3 a1 a2 a3 with
    | none => rw [alike_none2 h2] at h; cases h
    | some v =>
      obtain ⟨u1, u2, u3⟩ := u
      obtain ⟨v1, v2, v3⟩ := v
      rw [alike_some h1 h2] at h
      simp only [Bool.and_eq_true, beq_iff_eq] at h
      obtain ⟨⟨⟨rfl, rfl⟩, rfl⟩, hd⟩ := h
      obtain ⟨-, -, -, e1, e2⟩ := times_val h1
      obtain ⟨-, -, -, f1, f2⟩ := times_val h2
      exact ⟨by rw [← e1, f1], by rw [← e2, f2], hd⟩
theorem sq_sum0 {a b c d : Rat} : a * a + b * b + (c * c + d * d) = 0 ↔ a = 0 ∧ b = 0 ∧ c = 0 ∧ d = 0 := by
  constructor
  · intro h
    have h1 := sq_nonneg a
    have h2 := sq_nonneg b
    have h3 := sq_nonneg c
    have h4 := sq_nonneg d
    have z : ∀ x : Rat, x * x = 0 → x = 0 := fun x e => by
      rcases Rat.mul_eq_zero.1 e with k | k <;> exact k
    refine ⟨z _ ?_, z _ ?_, z _ ?_, z _ ?_⟩ <;> grind
  · rintro ⟨rfl, rfl, rfl, rfl⟩
    grind
theorem alike_sof {x1 x2 x3 y1 y2 y3 a1 a2 a3 b1 b2 b3 s1 s2 s3 t1 t2 t3 u1 u2 u3 v1 v2 v3 w1 w2 w3 z1 z2 z3 m1 m2 m3 n1 n2 n3 : Int} (h : alikeF x1 x2 x3 y1 y2 y3 a1 a2 a3 b1 b2 b3 = true) (hx : sofF x1 x2 x3 y1 y2 y3 = some ((s1, s2, s3), (t1, t2, t3), (u1, u2, u3), (v1, v2, v3))) (hy : sofF a1 a2 a3 b1 b2 b3 = some ((w1, w2, w3), (z1, z2, z3), (m1, m2, m3), (n1, n2, n3))) (ba : -10000 < s1 ∧ s1 < 10000 ∧ s3 < 10000 ∧ -10000 < t1 ∧ t1 < 10000 ∧ t3 < 10000 ∧ -10000 < u1 ∧ u1 < 10000 ∧ u3 < 10000 ∧ -10000 < v1 ∧ v1 < 10000 ∧ v3 < 10000) (be : -10000 < w1 ∧ w1 < 10000 ∧ w3 < 10000 ∧ -10000 < z1 ∧ z1 < 10000 ∧ z3 < 10000 ∧ -10000 < m1 ∧ m1 < 10000 ∧ m3 < 10000 ∧ -10000 < n1 ∧ n1 < 10000 ∧ n3 < 10000) : salikeF s1 s2 s3 t1 t2 t3 u1 u2 u3 v1 v2 v3 w1 w2 w3 z1 z2 z3 m1 m2 m3 n1 n2 n3 = true := by
  have v1' := sof_valid hx
  have v2' := sof_valid hy
  obtain ⟨⟨k1, rfl, k2, rfl, k3, rfl, k4, rfl⟩, okx, oky, e0, e1, e2, e3⟩ := sof_val hx
  obtain ⟨⟨l1, rfl, l2, rfl, l3, rfl, l4, rfl⟩, oka, okb, f0, f1, f2, f3⟩ := sof_val hy
  obtain ⟨g1, g2, g3⟩ := alike_val h
  have hsig : signI s1 = signI w1 := by
    refine signI_same (okF_den k1) (okF_den l1) ?_ ?_ ?_
    · rw [e0]
      have := sq_nonneg (rv x1 x3)
      have := sq_nonneg (rv x2 x3)
      have := sq_nonneg (rv y1 y3)
      have := sq_nonneg (rv y2 y3)
      grind
    · rw [f0]
      have := sq_nonneg (rv a1 a3)
      have := sq_nonneg (rv a2 a3)
      have := sq_nonneg (rv b1 b3)
      have := sq_nonneg (rv b2 b3)
      grind
    · rw [e0, f0, sq_sum0, sq_sum0, rv_is0 (okF_den okx), rv_is0 (okF_den okx), rv_is0 (okF_den oky), rv_is0 (okF_den oky), rv_is0 (okF_den oka), rv_is0 (okF_den oka), rv_is0 (okF_den okb), rv_is0 (okF_den okb), ← dark_iff, ← dark_iff, g3]
  refine salike_of v1' v2' hsig ba be ?_ ?_ ?_ ?_ ?_ ?_
  all_goals
    simp only [e0, e1, e2, e3, f0, f1, f2, f3]
    clear e0 e1 e2 e3 f0 f1 f2 f3
    generalize rv x1 x3 = X1 at *
    generalize rv x2 x3 = X2 at *
    generalize rv y1 y3 = Y1 at *
    generalize rv y2 y3 = Y2 at *
    generalize rv a1 a3 = A1 at *
    generalize rv a2 a3 = A2 at *
    generalize rv b1 b3 = B1 at *
    generalize rv b2 b3 = B2 at *
    grind
theorem alike_swap {x1 x2 x3 y1 y2 y3 a1 a2 a3 b1 b2 b3 : Int} (h : alikeF x1 x2 x3 y1 y2 y3 a1 a2 a3 b1 b2 b3 = true) : alikeF a1 a2 a3 b1 b2 b3 x1 x2 x3 y1 y2 y3 = true := by
  cases h1 : timesF x1 x2 x3 b1 b2 b3 with
  | none => rw [alike_none1 h1] at h; cases h
  | some u =>
    cases h2 : timesF y1 y2 y3 a1 a2 a3 with
    | none => rw [alike_none2 h2] at h; cases h
    | some v =>
      obtain ⟨u1, u2, u3⟩ := u
      obtain ⟨v1, v2, v3⟩ := v
      rw [alike_some h1 h2] at h
      simp only [Bool.and_eq_true, beq_iff_eq] at h
      obtain ⟨⟨⟨rfl, rfl⟩, rfl⟩, hd⟩ := h
      rw [alike_some (times_comm h2) (times_comm h1), hd]
      simp
theorem svec_some {a1 a2 a3 b1 b2 b3 c1 c2 c3 d1 d2 d3 x1 x2 x3 y1 y2 y3 : Int} (h : svecF a1 a2 a3 b1 b2 b3 c1 c2 c3 d1 d2 d3 = some ((x1, x2, x3), (y1, y2, y3))) : pureF a1 a2 a3 b1 b2 b3 c1 c2 c3 d1 d2 d3 = true ∧ ¬ a1 = 0 ∧ ∃ g1 g2 g3 t1 t2 t3, addF a1 a2 a3 b1 b2 b3 = some (g1, g2, g3) ∧ makeF (2 * a1) 0 a3 = some (t1, t2, t3) ∧ ∃ r1 r2 r3, timesF d1 d2 d3 0 (-1) 1 = some (r1, r2, r3) ∧
    ((g1 = 0 ∧ (x1, x2, x3) = (0, 0, 1) ∧ (y1, y2, y3) = (t1, t2, t3)) ∨ (¬ g1 = 0 ∧ (x1, x2, x3) = (g1, g2, g3) ∧ addF c1 c2 c3 r1 r2 r3 = some (y1, y2, y3))) := by
  unfold svecF at h
  split at h
  · rename_i hc
    rw [Bool.and_eq_true] at hc
    refine ⟨hc.1, by simpa using hc.2, ?_⟩
    cases hg : addF a1 a2 a3 b1 b2 b3 with
    | none => rw [hg] at h; cases h
    | some g =>
      cases ht : makeF (2 * a1) 0 a3 with
      | none => rw [hg, ht] at h; cases h
      | some u =>
        cases hr : timesF d1 d2 d3 0 (-1) 1 with
        | none => rw [hg, ht, hr] at h; cases h
        | some r =>
          rw [hg, ht, hr] at h
          obtain ⟨g1, g2, g3⟩ := g
          obtain ⟨t1, t2, t3⟩ := u
          obtain ⟨r1, r2, r3⟩ := r
          refine ⟨g1, g2, g3, t1, t2, t3, rfl, rfl, r1, r2, r3, rfl, ?_⟩
          simp only [Option.bind_some] at h
          split at h
          · rename_i h0
            obtain ⟨⟩ := h
            exact Or.inl ⟨h0, rfl, rfl⟩
          · rename_i h0
            cases hy : addF c1 c2 c3 r1 r2 r3 with
            | none => rw [hy] at h; cases h
            | some y =>
              rw [hy] at h
              obtain ⟨⟩ := h
              exact Or.inr ⟨h0, rfl, rfl⟩
  · cases h
/-- The vector's values: X real, greater than 0 or 0. -/
theorem svec_val {a1 a2 a3 b1 b2 b3 c1 c2 c3 d1 d2 d3 x1 x2 x3 y1 y2 y3 : Int} (h : svecF a1 a2 a3 b1 b2 b3 c1 c2 c3 d1 d2 d3 = some ((x1, x2, x3), (y1, y2, y3))) : pureF a1 a2 a3 b1 b2 b3 c1 c2 c3 d1 d2 d3 = true ∧ ¬ a1 = 0 ∧ okF x1 x2 x3 = true ∧ okF y1 y2 y3 = true ∧
    ((x1 = 0 ∧ x2 = 0 ∧ rv a1 a3 + rv b1 b3 = 0 ∧ rv y1 y3 = 2 * rv a1 a3 ∧ rv y2 y3 = 0) ∨ (¬ x1 = 0 ∧ rv x1 x3 = rv a1 a3 + rv b1 b3 ∧ rv x2 x3 = 0 ∧ rv y1 y3 = rv c1 c3 ∧ rv y2 y3 = -(rv d1 d3))) := by
  obtain ⟨hp, h0, g1, g2, g3, t1, t2, t3, hg, ht, r1, r2, r3, hr, hh⟩ := svec_some h
  obtain ⟨hv, -⟩ := pure_val hp
  obtain ⟨ga, gb, gc, gd⟩ := sValid_ok hv
  obtain ⟨ka, rfl⟩ := realB_ok ga
  obtain ⟨_, rfl⟩ := realB_ok gb
  obtain ⟨_, rfl⟩ := realB_ok gc
  obtain ⟨_, rfl⟩ := realB_ok gd
  obtain ⟨kg, rfl, eg⟩ := sum_real hg
  obtain ⟨kt, rfl, et⟩ := make_val (okF_den ka) ht
  obtain ⟨-, -, kr, er1, er2⟩ := times_val hr
  have o : rv (-1) 1 = -1 := by rw [rv_one]; exact_mod_cast rfl
  rw [rv_zero, rv_zero, o] at er1
  rw [rv_zero, rv_zero, o] at er2
  refine ⟨hp, h0, ?_⟩
  rcases hh with ⟨z, e1, e2⟩ | ⟨z, e1, e2⟩
  · obtain ⟨⟩ := e1
    obtain ⟨⟩ := e2
    subst z
    rw [rv_zero] at eg
    exact ⟨by decide, kt, Or.inl ⟨rfl, rfl, eg.symm, et, rv_zero _⟩⟩
  · obtain ⟨⟩ := e1
    obtain ⟨-, -, ky, ey1, ey2⟩ := sum_val e2
    rw [rv_zero] at ey2
    refine ⟨kg, ky, Or.inr ⟨z, eg, rv_zero _, by rw [ey1, er1]; grind, by rw [ey2, er2]; grind⟩⟩
theorem svec_ok {a1 a2 a3 b1 b2 b3 c1 c2 c3 d1 d2 d3 x1 x2 x3 y1 y2 y3 : Int} (h : svecF a1 a2 a3 b1 b2 b3 c1 c2 c3 d1 d2 d3 = some ((x1, x2, x3), (y1, y2, y3))) : okF x1 x2 x3 = true ∧ okF y1 y2 y3 = true := ⟨(svec_val h).2.2.1, (svec_val h).2.2.2.1⟩
theorem svec_lit {a1 a2 a3 b1 b2 b3 c1 c2 c3 d1 d2 d3 x1 x2 x3 y1 y2 y3 : Int} (h : svecF a1 a2 a3 b1 b2 b3 c1 c2 c3 d1 d2 d3 = some ((x1, x2, x3), (y1, y2, y3))) : ¬ (x1 = 0 ∧ x2 = 0 ∧ y1 = 0 ∧ y2 = 0) := by
  obtain ⟨hp, h0, kx, ky, hh⟩ := svec_val h
  have ka := (realB_ok (sValid_ok (pure_val hp).1).1).1
  rintro ⟨rfl, rfl, rfl, rfl⟩
  rcases hh with ⟨_, _, _, e, _⟩ | ⟨e, _⟩
  · rw [rv_zero] at e
    have : rv a1 a3 = 0 := by grind
    exact h0 ((rv_is0 (okF_den ka)).1 this)
  · exact e rfl
theorem pure_sof {a1 a2 a3 b1 b2 b3 c1 c2 c3 d1 d2 d3 x1 x2 x3 y1 y2 y3 s1 s2 s3 t1 t2 t3 u1 u2 u3 v1 v2 v3 : Int} (h : svecF a1 a2 a3 b1 b2 b3 c1 c2 c3 d1 d2 d3 = some ((x1, x2, x3), (y1, y2, y3))) (hx : sofF x1 x2 x3 y1 y2 y3 = some ((s1, s2, s3), (t1, t2, t3), (u1, u2, u3), (v1, v2, v3))) (ba : -10000 < a1 ∧ a1 < 10000 ∧ a3 < 10000 ∧ -10000 < b1 ∧ b1 < 10000 ∧ b3 < 10000 ∧ -10000 < c1 ∧ c1 < 10000 ∧ c3 < 10000 ∧ -10000 < d1 ∧ d1 < 10000 ∧ d3 < 10000) (be : -10000 < s1 ∧ s1 < 10000 ∧ s3 < 10000 ∧ -10000 < t1 ∧ t1 < 10000 ∧ t3 < 10000 ∧ -10000 < u1 ∧ u1 < 10000 ∧ u3 < 10000 ∧ -10000 < v1 ∧ v1 < 10000 ∧ v3 < 10000) : salikeF a1 a2 a3 b1 b2 b3 c1 c2 c3 d1 d2 d3 s1 s2 s3 t1 t2 t3 u1 u2 u3 v1 v2 v3 = true := by
  obtain ⟨hp, h0, kx, ky, hh⟩ := svec_val h
  obtain ⟨hv, -, -, eq, n0⟩ := pure_val hp
  obtain ⟨ga, gb, gc, gd⟩ := sValid_ok hv
  obtain ⟨ka, rfl⟩ := realB_ok ga
  obtain ⟨_, rfl⟩ := realB_ok gb
  obtain ⟨_, rfl⟩ := realB_ok gc
  obtain ⟨_, rfl⟩ := realB_ok gd
  have v1' := sof_valid hx
  obtain ⟨⟨k1, rfl, k2, rfl, k3, rfl, k4, rfl⟩, -, -, e0, e1, e2, e3⟩ := sof_val hx
  have nz : ¬ rv a1 a3 = 0 := fun z => h0 ((rv_is0 (okF_den ka)).1 z)
  have sg0 : 0 ≤ rv s1 s3 := by
    rw [e0]
    have := sq_nonneg (rv x1 x3)
    have := sq_nonneg (rv x2 x3)
    have := sq_nonneg (rv y1 y3)
    have := sq_nonneg (rv y2 y3)
    grind
  have nz2 : ¬ rv s1 s3 = 0 := fun z => by
    rw [e0, sq_sum0, rv_is0 (okF_den kx), rv_is0 (okF_den kx), rv_is0 (okF_den ky), rv_is0 (okF_den ky)] at z
    exact svec_lit h z
  have hsig : signI a1 = signI s1 := signI_same (okF_den ka) (okF_den k1) n0 sg0 ⟨fun z => absurd z nz, fun z => absurd z nz2⟩
  refine salike_of hv v1' hsig ba be ?_ ?_ ?_ ?_ ?_ ?_
  all_goals
    simp only [e0, e1, e2, e3]
    clear e0 e1 e2 e3 sg0 nz2 hsig
    rcases hh with ⟨rfl, rfl, g1, g2, g3⟩ | ⟨_, g1, g2, g3, g4⟩
    · rw [rv_zero, g2, g3]
      generalize rv a1 a3 = A at *
      generalize rv b1 b3 = B at *
      generalize rv c1 c3 = C at *
      generalize rv d1 d3 = D at *
      have hB : B = -A := by grind
      have cd : C * C + D * D = 0 := by grind
      have hC : C = 0 := by
        have h1 := sq_nonneg C
        have h2 := sq_nonneg D
        rcases Rat.mul_eq_zero.1 (show C * C = 0 by grind) with k | k <;> exact k
      have hD : D = 0 := by
        have h1 := sq_nonneg C
        have h2 := sq_nonneg D
        rcases Rat.mul_eq_zero.1 (show D * D = 0 by grind) with k | k <;> exact k
      subst hB hC hD
      grind
    · rw [g1, g2, g3, g4]
      generalize rv a1 a3 = A at *
      generalize rv b1 b3 = B at *
      generalize rv c1 c3 = C at *
      generalize rv d1 d3 = D at *
      grind

theorem mul_one_l {A : F4} (h : okM A = true) : mulM oneM A = some A := by
  obtain ⟨a, b, c, d⟩ := A
  obtain ⟨h1, h2, h3, h4⟩ := okM_of h
  exact quad_of (inT_of (tT_one' h1) (tT_zero' h3) (sT_zero h1)) (inT_of (tT_one' h2) (tT_zero' h4) (sT_zero h2)) (inT_of (tT_zero' h1) (tT_one' h3) (sT_zero' h3)) (inT_of (tT_zero' h2) (tT_one' h4) (sT_zero' h4))
theorem mul_one_r {A : F4} (h : okM A = true) : mulM A oneM = some A := by
  obtain ⟨a, b, c, d⟩ := A
  obtain ⟨h1, h2, h3, h4⟩ := okM_of h
  exact quad_of (inT_of (tT_one h1) (tT_zero h2) (sT_zero h1)) (inT_of (tT_zero h1) (tT_one h2) (sT_zero' h2)) (inT_of (tT_one h3) (tT_zero h4) (sT_zero h3)) (inT_of (tT_zero h3) (tT_one h4) (sT_zero' h4))
theorem scl_one {A : F4} (h : okM A = true) : sclM A (1, 0, 1) = some A := by
  obtain ⟨a, b, c, d⟩ := A
  obtain ⟨h1, h2, h3, h4⟩ := okM_of h
  exact quad_of (tT_one h1) (tT_one h2) (tT_one h3) (tT_one h4)
theorem rot_one : rotM 1 0 = some oneM := by decide
theorem mul_adj {A B C U V W X : F4} (h : mulM A B = some C) (hu : adjM A = some U) (hv : adjM B = some V) (hw : adjM C = some W) (hx : mulM V U = some X) : X = W := by
  obtain ⟨a, b, c, d⟩ := A
  obtain ⟨i, j, k, l⟩ := B
  obtain ⟨w, x, y, z⟩ := C
  obtain ⟨p, q, r, s⟩ := X
  obtain ⟨-, rfl⟩ := adjM_some hu
  obtain ⟨-, rfl⟩ := adjM_some hv
  obtain ⟨-, rfl⟩ := adjM_some hw
  obtain ⟨e1, e2, e3, e4⟩ := mulM_some h
  obtain ⟨f1, f2, f3, f4⟩ := mulM_some hx
  obtain ⟨-, -, -, -, o1, r1, i1⟩ := inT_val e1
  obtain ⟨-, -, -, -, o2, r2, i2⟩ := inT_val e2
  obtain ⟨-, -, -, -, o3, r3, i3⟩ := inT_val e3
  obtain ⟨-, -, -, -, o4, r4, i4⟩ := inT_val e4
  obtain ⟨-, -, -, -, O1, R1, I1⟩ := inT_val f1
  obtain ⟨-, -, -, -, O2, R2, I2⟩ := inT_val f2
  obtain ⟨-, -, -, -, O3, R3, I3⟩ := inT_val f3
  obtain ⟨-, -, -, -, O4, R4, I4⟩ := inT_val f4
  simp only [reT_bar, imT_bar] at R1 I1 R2 I2 R3 I3 R4 I4
  have g1 : p = barT w := uniqT O1 (by rw [okT_bar]; exact o1) (by rw [reT_bar]; grind) (by rw [imT_bar]; grind)
  have g2 : q = barT y := uniqT O2 (by rw [okT_bar]; exact o3) (by rw [reT_bar]; grind) (by rw [imT_bar]; grind)
  have g3 : r = barT x := uniqT O3 (by rw [okT_bar]; exact o2) (by rw [reT_bar]; grind) (by rw [imT_bar]; grind)
  have g4 : s = barT z := uniqT O4 (by rw [okT_bar]; exact o4) (by rw [reT_bar]; grind) (by rw [imT_bar]; grind)
  rw [g1, g2, g3, g4]
theorem mul_det {A B C : F4} {k l m n : F3} (h : mulM A B = some C) (hk : detM A = some k) (hl : detM B = some l) (hm : detM C = some m) (hn : tT k l = some n) : m = n := by
  obtain ⟨a, b, c, d⟩ := A
  obtain ⟨i, j, k', l'⟩ := B
  obtain ⟨w, x, y, z⟩ := C
  obtain ⟨e1, e2, e3, e4⟩ := mulM_some h
  obtain ⟨-, -, -, -, o1, r1, i1⟩ := inT_val e1
  obtain ⟨-, -, -, -, o2, r2, i2⟩ := inT_val e2
  obtain ⟨-, -, -, -, o3, r3, i3⟩ := inT_val e3
  obtain ⟨-, -, -, -, o4, r4, i4⟩ := inT_val e4
  obtain ⟨-, -, rk, ik⟩ := detM_val hk
  obtain ⟨-, -, rl, il⟩ := detM_val hl
  obtain ⟨-, om, rm, im⟩ := detM_val hm
  obtain ⟨-, -, on, rn, i_n⟩ := tT_val hn
  refine uniqT om on ?_ ?_
  · rw [rm, rn, rk, rl, ik, il, r1, r2, r3, r4, i1, i2, i3, i4]
    grind
  · rw [im, i_n, rk, rl, ik, il, r1, r2, r3, r4, i1, i2, i3, i4]
    grind
theorem adj_adj {A B : F4} (h : adjM A = some B) : adjM B = some A := by
  have h' := (adjM_ok h).2
  obtain ⟨a, b, c, d⟩ := A
  obtain ⟨-, rfl⟩ := adjM_some h
  rw [adjM_of h', bar_bar, bar_bar, bar_bar, bar_bar]
theorem adj_det {A B : F4} {k l : F3} (h : adjM A = some B) (hk : detM A = some k) (hl : detM B = some l) : cT k = some l := by
  obtain ⟨a, b, c, d⟩ := A
  obtain ⟨-, rfl⟩ := adjM_some h
  obtain ⟨-, ok, rk, ik⟩ := detM_val hk
  obtain ⟨-, ol, rl, il⟩ := detM_val hl
  simp only [reT_bar, imT_bar] at rl il
  rw [cT_of ok, uniqT ol (v := barT k) (by rw [okT_bar]; exact ok) (by rw [reT_bar]; grind) (by rw [imT_bar]; grind)]
/-- What is lossless, in values. -/
theorem los_val {a b c d : F3} (h : losM (a, b, c, d) = true) : okM (a, b, c, d) = true ∧
    reT a * reT a + imT a * imT a + (reT b * reT b + imT b * imT b) = 1 ∧ reT c * reT c + imT c * imT c + (reT d * reT d + imT d * imT d) = 1 ∧
    reT a * reT c + imT a * imT c + (reT b * reT d + imT b * imT d) = 0 ∧ imT a * reT c - reT a * imT c + (imT b * reT d - reT b * imT d) = 0 := by
  obtain ⟨B, h1, h2⟩ := lossM_some h
  obtain ⟨hv, rfl⟩ := adjM_some h1
  obtain ⟨e1, e2, e3, e4⟩ := mulM_some (w := (1, 0, 1)) (x := (0, 0, 1)) (y := (0, 0, 1)) (z := (1, 0, 1)) h2
  obtain ⟨-, -, -, -, -, r1, i1⟩ := inT_val e1
  obtain ⟨-, -, -, -, -, r2, i2⟩ := inT_val e2
  obtain ⟨-, -, -, -, -, r4, i4⟩ := inT_val e4
  simp only [reT_bar, imT_bar, reT_one, imT_one, reT_zero, imT_zero] at r1 i1 r2 i2 r4 i4
  exact ⟨hv, by grind, by grind, by grind, by grind⟩
/-- Lossless in values, turned over. -/
theorem los_turn {a1 a2 b1 b2 c1 c2 d1 d2 : Rat} (h1 : a1 * a1 + a2 * a2 + (b1 * b1 + b2 * b2) = 1) (h2 : c1 * c1 + c2 * c2 + (d1 * d1 + d2 * d2) = 1)
    (h3 : a1 * c1 + a2 * c2 + (b1 * d1 + b2 * d2) = 0) (h4 : a2 * c1 - a1 * c2 + (b2 * d1 - b1 * d2) = 0) :
    a1 * a1 + a2 * a2 + (c1 * c1 + c2 * c2) = 1 ∧ b1 * b1 + b2 * b2 + (d1 * d1 + d2 * d2) = 1 ∧ a1 * b1 + a2 * b2 + (c1 * d1 + c2 * d2) = 0 ∧ a1 * b2 - a2 * b1 + (c1 * d2 - c2 * d1) = 0 ∧
    (a1 * d1 - a2 * d2 - (b1 * c1 - b2 * c2)) * (a1 * d1 - a2 * d2 - (b1 * c1 - b2 * c2)) + (a1 * d2 + a2 * d1 - (b1 * c2 + b2 * c1)) * (a1 * d2 + a2 * d1 - (b1 * c2 + b2 * c1)) = 1 := by
  obtain ⟨p, hp⟩ : ∃ p, p = a1 * d1 - a2 * d2 - (b1 * c1 - b2 * c2) := ⟨_, rfl⟩
  obtain ⟨q, hq⟩ : ∃ q, q = a1 * d2 + a2 * d1 - (b1 * c2 + b2 * c1) := ⟨_, rfl⟩
  rw [← hp, ← hq]
  have L : p * p + q * q = (a1 * a1 + a2 * a2 + (b1 * b1 + b2 * b2)) * (c1 * c1 + c2 * c2 + (d1 * d1 + d2 * d2)) - ((a1 * c1 + a2 * c2 + (b1 * d1 + b2 * d2)) * (a1 * c1 + a2 * c2 + (b1 * d1 + b2 * d2)) + (a2 * c1 - a1 * c2 + (b2 * d1 - b1 * d2)) * (a2 * c1 - a1 * c2 + (b2 * d1 - b1 * d2))) := by
    rw [hp, hq]
    grind
  have D : p * p + q * q = 1 := by rw [L, h1, h2, h3, h4]; grind
  have A1 : a1 = d1 * p + d2 * q := by
    have : d1 * p + d2 * q = a1 * (c1 * c1 + c2 * c2 + (d1 * d1 + d2 * d2)) - c1 * (a1 * c1 + a2 * c2 + (b1 * d1 + b2 * d2)) + c2 * (a2 * c1 - a1 * c2 + (b2 * d1 - b1 * d2)) := by rw [hp, hq]; grind
    rw [this, h2, h3, h4]; grind
  have A2 : a2 = d1 * q - d2 * p := by
    have : d1 * q - d2 * p = a2 * (c1 * c1 + c2 * c2 + (d1 * d1 + d2 * d2)) - c2 * (a1 * c1 + a2 * c2 + (b1 * d1 + b2 * d2)) - c1 * (a2 * c1 - a1 * c2 + (b2 * d1 - b1 * d2)) := by rw [hp, hq]; grind
    rw [this, h2, h3, h4]; grind
  have B1 : b1 = -(c1 * p + c2 * q) := by
    have : c1 * p + c2 * q = d1 * (a1 * c1 + a2 * c2 + (b1 * d1 + b2 * d2)) - d2 * (a2 * c1 - a1 * c2 + (b2 * d1 - b1 * d2)) - b1 * (c1 * c1 + c2 * c2 + (d1 * d1 + d2 * d2)) := by rw [hp, hq]; grind
    rw [this, h2, h3, h4]; grind
  have B2 : b2 = -(c1 * q - c2 * p) := by
    have : c1 * q - c2 * p = d2 * (a1 * c1 + a2 * c2 + (b1 * d1 + b2 * d2)) + d1 * (a2 * c1 - a1 * c2 + (b2 * d1 - b1 * d2)) - b2 * (c1 * c1 + c2 * c2 + (d1 * d1 + d2 * d2)) := by rw [hp, hq]; grind
    rw [this, h2, h3, h4]; grind
  clear L hp hq
  have E1 : a1 * a1 + a2 * a2 = d1 * d1 + d2 * d2 := by
    have : (d1 * p + d2 * q) * (d1 * p + d2 * q) + (d1 * q - d2 * p) * (d1 * q - d2 * p) = (d1 * d1 + d2 * d2) * (p * p + q * q) := by grind
    rw [A1, A2, this, D]; grind
  have E2 : b1 * b1 + b2 * b2 = c1 * c1 + c2 * c2 := by
    have : -(c1 * p + c2 * q) * -(c1 * p + c2 * q) + -(c1 * q - c2 * p) * -(c1 * q - c2 * p) = (c1 * c1 + c2 * c2) * (p * p + q * q) := by grind
    rw [B1, B2, this, D]; grind
  have E3 : a1 * b1 + a2 * b2 = -(c1 * d1 + c2 * d2) := by
    have : (d1 * p + d2 * q) * -(c1 * p + c2 * q) + (d1 * q - d2 * p) * -(c1 * q - c2 * p) = -(c1 * d1 + c2 * d2) * (p * p + q * q) := by grind
    rw [A1, A2, B1, B2, this, D]; grind
  have E4 : a1 * b2 - a2 * b1 = -(c1 * d2 - c2 * d1) := by
    have : (d1 * p + d2 * q) * -(c1 * q - c2 * p) - (d1 * q - d2 * p) * -(c1 * p + c2 * q) = -(c1 * d2 - c2 * d1) * (p * p + q * q) := by grind
    rw [A1, A2, B1, B2, this, D]; grind
  exact ⟨by grind, by grind, by grind, by grind, D⟩
theorem los_det {A : F4} {r n : F3} (h : losM A = true) (hd : detM A = some r) (hn : powerF r.1 r.2.1 r.2.2 = some n) : n = (1, 0, 1) := by
  obtain ⟨a, b, c, d⟩ := A
  obtain ⟨-, l1, l2, l3, l4⟩ := los_val h
  obtain ⟨-, -, rr, ir⟩ := detM_val hd
  obtain ⟨n1, n2, n3⟩ := n
  obtain ⟨-, on, rn, i_n, -⟩ := power_val hn
  have t := (los_turn l1 l2 l3 l4).2.2.2.2
  refine uniqT (u := (n1, n2, n3)) on okT_one ?_ ?_
  · rw [reT_one, show reT (n1, n2, n3) = _ from rn, show rv r.1 r.2.2 = reT r from rfl, show rv r.2.1 r.2.2 = imT r from rfl, rr, ir, ← t]
  · rw [imT_one]; exact i_n
theorem los_back {A B X : F4} (h : losM A = true) (hb : adjM A = some B) (hx : mulM B A = some X) : X = oneM ∧ losM B = true := by
  have hX : X = oneM := by
    obtain ⟨a, b, c, d⟩ := A
    obtain ⟨p, q, r, s⟩ := X
    obtain ⟨-, rfl⟩ := adjM_some hb
    obtain ⟨-, l1, l2, l3, l4⟩ := los_val h
    obtain ⟨t1, t2, t3, t4, -⟩ := los_turn l1 l2 l3 l4
    obtain ⟨e1, e2, e3, e4⟩ := mulM_some hx
    obtain ⟨-, -, -, -, o1, r1, i1⟩ := inT_val e1
    obtain ⟨-, -, -, -, o2, r2, i2⟩ := inT_val e2
    obtain ⟨-, -, -, -, o3, r3, i3⟩ := inT_val e3
    obtain ⟨-, -, -, -, o4, r4, i4⟩ := inT_val e4
    simp only [reT_bar, imT_bar] at r1 i1 r2 i2 r3 i3 r4 i4
    have g1 : p = (1, 0, 1) := uniqT o1 okT_one (by rw [reT_one]; grind) (by rw [imT_one]; grind)
    have g2 : q = (0, 0, 1) := uniqT o2 okT_zero (by rw [reT_zero]; grind) (by rw [imT_zero]; grind)
    have g3 : r = (0, 0, 1) := uniqT o3 okT_zero (by rw [reT_zero]; grind) (by rw [imT_zero]; grind)
    have g4 : s = (1, 0, 1) := uniqT o4 okT_one (by rw [reT_one]; grind) (by rw [imT_one]; grind)
    rw [g1, g2, g3, g4]
    rfl
  exact ⟨hX, losM_of (adj_adj hb) (hX ▸ hx)⟩
/-- A vector's power. -/
def pT (x y : F3) : Option F3 := jpowF x.1 x.2.1 x.2.2 y.1 y.2.1 y.2.2
def nT (x y u v : F3) : Option F3 := innerF x.1 x.2.1 x.2.2 y.1 y.2.1 y.2.2 u.1 u.2.1 u.2.2 v.1 v.2.1 v.2.2
theorem pT_val {x y n : F3} (h : pT x y = some n) : okT n = true ∧ reT n = reT x * reT x + imT x * imT x + (reT y * reT y + imT y * imT y) ∧ imT n = 0 := by
  obtain ⟨n1, n2, n3⟩ := n
  obtain ⟨-, -, o, r, i, -⟩ := jpow_val h
  exact ⟨o, r, i⟩
theorem nT_val {x y u v n : F3} (h : nT x y u v = some n) : okT n = true ∧ reT n = reT x * reT u + imT x * imT u + (reT y * reT v + imT y * imT v) ∧ imT n = imT x * reT u - reT x * imT u + (imT y * reT v - reT y * imT v) := by
  obtain ⟨n1, n2, n3⟩ := n
  obtain ⟨-, -, -, -, o, r, i⟩ := inner_val h
  exact ⟨o, r, i⟩
theorem los_power {A : F4} {x y u v n m : F3} (h : losM A = true) (ha : appM A (x, y) = some (u, v)) (hn : pT u v = some n) (hm : pT x y = some m) : n = m := by
  obtain ⟨a, b, c, d⟩ := A
  obtain ⟨-, l1, l2, l3, l4⟩ := los_val h
  obtain ⟨t1, t2, t3, t4, -⟩ := los_turn l1 l2 l3 l4
  obtain ⟨e1, e2⟩ := appM_some ha
  obtain ⟨-, -, -, -, -, r1, i1⟩ := inT_val e1
  obtain ⟨-, -, -, -, -, r2, i2⟩ := inT_val e2
  obtain ⟨on, rn, i_n⟩ := pT_val hn
  obtain ⟨om, rm, im⟩ := pT_val hm
  refine uniqT on om ?_ (by rw [i_n, im])
  have : reT n = (reT x * reT x + imT x * imT x) * (reT a * reT a + imT a * imT a + (reT c * reT c + imT c * imT c)) + (reT y * reT y + imT y * imT y) * (reT b * reT b + imT b * imT b + (reT d * reT d + imT d * imT d))
      + 2 * (reT x * reT y + imT x * imT y) * (reT a * reT b + imT a * imT b + (reT c * reT d + imT c * imT d)) + 2 * (imT x * reT y - reT x * imT y) * (reT a * imT b - imT a * reT b + (reT c * imT d - imT c * reT d)) := by
    rw [rn, r1, i1, r2, i2]
    grind
  rw [this, t1, t2, t3, t4, rm]
  grind
theorem app_back {A B : F4} {x y u v n s t p : F3} (ha : appM A (x, y) = some (u, v)) (hb : adjM A = some B) (hc : appM B (u, v) = some (s, t)) (hp : nT x y s t = some p) (hn : pT u v = some n) : p = n := by
  obtain ⟨a, b, c, d⟩ := A
  obtain ⟨-, rfl⟩ := adjM_some hb
  obtain ⟨e1, e2⟩ := appM_some ha
  obtain ⟨f1, f2⟩ := appM_some hc
  obtain ⟨-, -, -, -, -, r1, i1⟩ := inT_val e1
  obtain ⟨-, -, -, -, -, r2, i2⟩ := inT_val e2
  obtain ⟨-, -, -, -, -, r3, i3⟩ := inT_val f1
  obtain ⟨-, -, -, -, -, r4, i4⟩ := inT_val f2
  simp only [reT_bar, imT_bar] at r3 i3 r4 i4
  obtain ⟨on, rn, i_n⟩ := pT_val hn
  obtain ⟨op, rp, ip⟩ := nT_val hp
  refine uniqT op on ?_ ?_
  · rw [rp, rn, r3, i3, r4, i4]
    grind
  · rw [ip, i_n, r3, i3, r4, i4]
    grind

/-- Numbers so small that their products are told. -/
def smaT (u : F3) : Prop := -10000 < u.1 ∧ u.1 < 10000 ∧ -10000 < u.2.1 ∧ u.2.1 < 10000 ∧ u.2.2 < 10000
theorem sma_told {u v : F3} (hu : okT u = true) (hv : okT v = true) (su : smaT u) (sv : smaT v) : ∃ w, tT u v = some w := by
  obtain ⟨x, y, z⟩ := u
  obtain ⟨a, b, c⟩ := v
  obtain ⟨s1, s2, s3, s4, s5⟩ := su
  obtain ⟨t1, t2, t3, t4, t5⟩ := sv
  simp only at s1 s2 s3 s4 s5 t1 t2 t3 t4 t5
  have z1 := okF_den hu
  have c1 := okF_den hv
  simp only at z1 c1
  have m1 : z * c ≤ 9999 * 9999 := Int.mul_le_mul (by omega) (by omega) (by omega) (by omega)
  have m2 : (x * a).natAbs ≤ 9999 * 9999 := by rw [Int.natAbs_mul]; exact Nat.mul_le_mul (by omega) (by omega)
  have m3 : (y * b).natAbs ≤ 9999 * 9999 := by rw [Int.natAbs_mul]; exact Nat.mul_le_mul (by omega) (by omega)
  have m4 : (x * b).natAbs ≤ 9999 * 9999 := by rw [Int.natAbs_mul]; exact Nat.mul_le_mul (by omega) (by omega)
  have m5 : (y * a).natAbs ≤ 9999 * 9999 := by rw [Int.natAbs_mul]; exact Nat.mul_le_mul (by omega) (by omega)
  obtain ⟨p, q, r, e⟩ := low_told (x := x * a - y * b) (y := x * b + y * a) (mul_pos1 z1 c1) (by omega) (by omega) (by omega)
  refine ⟨(p, q, r), ?_⟩
  show timesF x y z a b c = some (p, q, r)
  have hu' : okF x y z = true := hu
  have hv' : okF a b c = true := hv
  unfold timesF
  rw [hu', hv']
  exact e
theorem crs_val {u v s t : F3} (h : crsM u v s t = true) : reT u * reT t - imT u * imT t = reT v * reT s - imT v * imT s ∧ reT u * imT t + imT u * reT t = reT v * imT s + imT v * reT s := by
  unfold crsM at h
  rw [Bool.and_eq_true, beq_iff_eq] at h
  obtain ⟨w, hw⟩ := Option.isSome_iff_exists.1 h.1
  have hx := h.2.symm.trans hw
  obtain ⟨-, -, -, e1, e2⟩ := tT_val hw
  obtain ⟨-, -, -, f1, f2⟩ := tT_val hx
  exact ⟨by rw [← e1, f1], by rw [← e2, f2]⟩
theorem crs_swap {u v s t : F3} (h : crsM u v s t = true) : crsM s t u v = true := by
  unfold crsM at h ⊢
  rw [Bool.and_eq_true, beq_iff_eq] at h ⊢
  rw [tT_comm s v, tT_comm t u, ← h.2]
  exact ⟨h.1, rfl⟩
theorem crs_of {u v s t : F3} (hu : okT u = true) (hv : okT v = true) (hs : okT s = true) (ht : okT t = true) (su : smaT u) (sv : smaT v) (ss : smaT s) (st : smaT t)
    (e : reT u * reT t - imT u * imT t = reT v * reT s - imT v * imT s) (f : reT u * imT t + imT u * reT t = reT v * imT s + imT v * reT s) : crsM u v s t = true := by
  obtain ⟨w, hw⟩ := sma_told hu ht su st
  obtain ⟨x, hx⟩ := sma_told hv hs sv ss
  obtain ⟨-, -, o1, e1, e2⟩ := tT_val hw
  obtain ⟨-, -, o2, f1, f2⟩ := tT_val hx
  have : w = x := uniqT o1 o2 (by rw [e1, f1, e]) (by rw [e2, f2, f])
  unfold crsM
  rw [hw, hx, this]
  simp
theorem alk_some {a b c d i j k l : F3} (h : alkM (a, b, c, d) (i, j, k, l) = true) : okM (a, b, c, d) = true ∧ okM (i, j, k, l) = true ∧ darkM (a, b, c, d) = darkM (i, j, k, l) ∧
    crsM b a j i = true ∧ crsM c a k i = true ∧ crsM c b k j = true ∧ crsM d a l i = true ∧ crsM d b l j = true ∧ crsM d c l k = true := by
  unfold alkM at h
  simp only [Bool.and_eq_true, beq_iff_eq] at h
  obtain ⟨⟨⟨⟨⟨⟨⟨⟨h1, h2⟩, h3⟩, h4⟩, h5⟩, h6⟩, h7⟩, h8⟩, h9⟩ := h
  exact ⟨h1, h2, h3, h4, h5, h6, h7, h8, h9⟩
theorem alk_of {a b c d i j k l : F3} (h1 : okM (a, b, c, d) = true) (h2 : okM (i, j, k, l) = true) (h3 : darkM (a, b, c, d) = darkM (i, j, k, l))
    (h4 : crsM b a j i = true) (h5 : crsM c a k i = true) (h6 : crsM c b k j = true) (h7 : crsM d a l i = true) (h8 : crsM d b l j = true) (h9 : crsM d c l k = true) : alkM (a, b, c, d) (i, j, k, l) = true := by
  unfold alkM
  simp only [Bool.and_eq_true, beq_iff_eq]
  exact ⟨⟨⟨⟨⟨⟨⟨⟨h1, h2⟩, h3⟩, h4⟩, h5⟩, h6⟩, h7⟩, h8⟩, h9⟩
theorem alk_swap {A B : F4} (h : alkM A B = true) : alkM B A = true := by
  obtain ⟨a, b, c, d⟩ := A
  obtain ⟨i, j, k, l⟩ := B
  obtain ⟨h1, h2, h3, h4, h5, h6, h7, h8, h9⟩ := alk_some h
  exact alk_of h2 h1 h3.symm (crs_swap h4) (crs_swap h5) (crs_swap h6) (crs_swap h7) (crs_swap h8) (crs_swap h9)
theorem dark4 {a b c d : F3} (h : okM (a, b, c, d) = true) : darkM (a, b, c, d) = true ↔ ((reT a = 0 ∧ imT a = 0) ∧ (reT b = 0 ∧ imT b = 0) ∧ (reT c = 0 ∧ imT c = 0) ∧ (reT d = 0 ∧ imT d = 0)) := by
  obtain ⟨h1, h2, h3, h4⟩ := okM_of h
  rw [← isz h1, ← isz h2, ← isz h3, ← isz h4]
  unfold darkM
  simp only [Bool.and_eq_true, beq_iff_eq]
  constructor
  · rintro ⟨⟨⟨⟨⟨⟨⟨p1, p2⟩, p3⟩, p4⟩, p5⟩, p6⟩, p7⟩, p8⟩
    exact ⟨⟨p1, p2⟩, ⟨p3, p4⟩, ⟨p5, p6⟩, p7, p8⟩
  · rintro ⟨⟨p1, p2⟩, ⟨p3, p4⟩, ⟨p5, p6⟩, p7, p8⟩
    exact ⟨⟨⟨⟨⟨⟨⟨p1, p2⟩, p3⟩, p4⟩, p5⟩, p6⟩, p7⟩, p8⟩
/-- A product is 0 where one of both is. -/
theorem tz {u1 u2 v1 v2 : Rat} (e : u1 * v1 - u2 * v2 = 0) (f : u1 * v2 + u2 * v1 = 0) (h : ¬ (v1 = 0 ∧ v2 = 0)) : u1 = 0 ∧ u2 = 0 := by
  have n : ¬ v1 * v1 + v2 * v2 = 0 := fun k => h (by
    have := (sq_sum0 (a := v1) (b := v2) (c := 0) (d := 0)).1 (by grind)
    exact ⟨this.1, this.2.1⟩)
  have e1 : u1 * (v1 * v1 + v2 * v2) = 0 := by
    have : u1 * (v1 * v1 + v2 * v2) = v1 * (u1 * v1 - u2 * v2) + v2 * (u1 * v2 + u2 * v1) := by grind
    rw [this, e, f]; grind
  have e2 : u2 * (v1 * v1 + v2 * v2) = 0 := by
    have : u2 * (v1 * v1 + v2 * v2) = v1 * (u1 * v2 + u2 * v1) - v2 * (u1 * v1 - u2 * v2) := by grind
    rw [this, e, f]; grind
  exact ⟨(Rat.mul_eq_zero.1 e1).resolve_right n, (Rat.mul_eq_zero.1 e2).resolve_right n⟩
/-- Of alike matrices the first columns are both dark or none. -/
theorem alk_dark {a b c d i j k l : F3} (h : alkM (a, b, c, d) (i, j, k, l) = true) (hd : (reT a = 0 ∧ imT a = 0) ∧ (reT c = 0 ∧ imT c = 0)) : (reT i = 0 ∧ imT i = 0) ∧ (reT k = 0 ∧ imT k = 0) := by
  obtain ⟨h1, h2, h3, h4, h5, h6, h7, h8, h9⟩ := alk_some h
  obtain ⟨⟨ra, ia⟩, rc, ic⟩ := hd
  have z4 := crs_val h4
  have z6 := crs_val h6
  have z7 := crs_val h7
  have z9 := crs_val h9
  rw [ra, ia] at z4 z7
  rw [rc, ic] at z6 z9
  by_cases hb : reT b = 0 ∧ imT b = 0
  · by_cases hdd : reT d = 0 ∧ imT d = 0
    · have : darkM (a, b, c, d) = true := (dark4 h1).2 ⟨⟨ra, ia⟩, hb, ⟨rc, ic⟩, hdd⟩
      rw [h3] at this
      have t := (dark4 h2).1 this
      exact ⟨t.1, t.2.2.1⟩
    · exact ⟨tz (by grind) (by grind) hdd, tz (by grind) (by grind) hdd⟩
  · exact ⟨tz (by grind) (by grind) hb, tz (by grind) (by grind) hb⟩
/-- The first columns of alike matrices are alike. -/
theorem alk_col {a b c d i j k l x1 x2 y1 y2 m n : F3} (h : alkM (a, b, c, d) (i, j, k, l) = true) (hx : appM (a, b, c, d) ((1, 0, 1), (0, 0, 1)) = some (x1, x2)) (hy : appM (i, j, k, l) ((1, 0, 1), (0, 0, 1)) = some (y1, y2))
    (hm : tT x1 y2 = some m) (hn : tT x2 y1 = some n) : alikeF x1.1 x1.2.1 x1.2.2 x2.1 x2.2.1 x2.2.2 y1.1 y1.2.1 y1.2.2 y2.1 y2.2.1 y2.2.2 = true := by
  obtain ⟨h1, h2, h3, h4, h5, h6, h7, h8, h9⟩ := alk_some h
  have D1 := alk_dark h
  have D2 := alk_dark (alk_swap h)
  obtain ⟨f1, f2⟩ := appM_some hx
  obtain ⟨g1, g2⟩ := appM_some hy
  obtain ⟨oa, ob, oc, od⟩ := okM_of h1
  obtain ⟨oi, oj, ok, ol⟩ := okM_of h2
  have e1 : x1 = a := Option.some.inj (f1.symm.trans (inT_of (tT_one oa) (tT_zero ob) (sT_zero oa)))
  have e2 : x2 = c := Option.some.inj (f2.symm.trans (inT_of (tT_one oc) (tT_zero od) (sT_zero oc)))
  have e3 : y1 = i := Option.some.inj (g1.symm.trans (inT_of (tT_one oi) (tT_zero oj) (sT_zero oi)))
  have e4 : y2 = k := Option.some.inj (g2.symm.trans (inT_of (tT_one ok) (tT_zero ol) (sT_zero ok)))
  subst e1 e2 e3 e4
  obtain ⟨-, -, o1, r1, i1⟩ := tT_val hm
  obtain ⟨-, -, o2, r2, i2⟩ := tT_val hn
  obtain ⟨v1, v2⟩ := crs_val h5
  have mn : m = n := uniqT o1 o2 (by grind) (by grind)
  subst mn
  obtain ⟨m1, m2, m3⟩ := m
  rw [alike_some hm hn]
  simp only [beq_self_eq_true, Bool.true_and, beq_iff_eq]
  have q1 : darkB x1.1 x1.2.1 x1.2.2 x2.1 x2.2.1 x2.2.2 = true ↔ (reT x1 = 0 ∧ imT x1 = 0) ∧ (reT x2 = 0 ∧ imT x2 = 0) := by
    rw [dark_iff, ← isz oa, ← isz oc, and_assoc]
  have q2 : darkB y1.1 y1.2.1 y1.2.2 y2.1 y2.2.1 y2.2.2 = true ↔ (reT y1 = 0 ∧ imT y1 = 0) ∧ (reT y2 = 0 ∧ imT y2 = 0) := by
    rw [dark_iff, ← isz oi, ← isz ok, and_assoc]
  rw [Bool.eq_iff_iff, q1, q2]
  exact ⟨D1, D2⟩
/-- Multiples of small matrices are alike to them. -/
theorem scl_alk {a b c d q w x y z : F3} (h : sclM (a, b, c, d) q = some (w, x, y, z)) (hq : ¬ (q.1 = 0 ∧ q.2.1 = 0)) (sa : smaT a) (sb : smaT b) (sc : smaT c) (sd : smaT d) (sw : smaT w) (sx : smaT x) (sy : smaT y) (sz : smaT z) : alkM (a, b, c, d) (w, x, y, z) = true := by
  obtain ⟨k1, k2⟩ := sclM_ok h
  obtain ⟨h1, h2, h3, h4⟩ := sclM_some h
  obtain ⟨oa, oq, ow, r1, i1⟩ := tT_val h1
  obtain ⟨ob, -, ox, r2, i2⟩ := tT_val h2
  obtain ⟨oc, -, oy, r3, i3⟩ := tT_val h3
  obtain ⟨od, -, oz, r4, i4⟩ := tT_val h4
  rw [isz oq] at hq
  have Z : ∀ {u v : F3}, reT v = reT u * reT q - imT u * imT q → imT v = reT u * imT q + imT u * reT q → ((reT u = 0 ∧ imT u = 0) ↔ (reT v = 0 ∧ imT v = 0)) := by
    intro u v e f
    constructor
    · rintro ⟨g1, g2⟩
      rw [e, f, g1, g2]
      constructor <;> grind
    · rintro ⟨g1, g2⟩
      exact tz (by rw [← e, g1]) (by rw [← f, g2]) hq
  have hd : darkM (a, b, c, d) = darkM (w, x, y, z) := by
    rw [Bool.eq_iff_iff, dark4 k1, dark4 k2, Z r1 i1, Z r2 i2, Z r3 i3, Z r4 i4]
  exact alk_of k1 k2 hd (crs_of ob oa ox ow sb sa sx sw (by grind) (by grind)) (crs_of oc oa oy ow sc sa sy sw (by grind) (by grind)) (crs_of oc ob oy ox sc sb sy sx (by grind) (by grind)) (crs_of od oa oz ow sd sa sz sw (by grind) (by grind)) (crs_of od ob oz ox sd sb sz sx (by grind) (by grind)) (crs_of od oc oz oy sd sc sz sy (by grind) (by grind))

theorem isq_nonneg (a : Int) : 0 ≤ a * a := by
  rcases Int.le_total 0 a with h | h
  · exact Int.mul_nonneg h h
  · exact Int.mul_nonneg_of_nonpos_of_nonpos h h
theorem low_val {x y d p q r : Int} (hd : 1 ≤ d) (h : lowF x y d = some (p, q, r)) : okF p q r = true ∧ rv p r = rv x d ∧ rv q r = rv y d := by
  obtain ⟨k, e1, e2⟩ := (low_iff hd).1 h
  exact ⟨k, (rv_eq (okF_den k) hd).2 (by rw [e1]), (rv_eq (okF_den k) hd).2 (by rw [e2])⟩
/-- Fractions of small parts are told. -/
theorem frac_of {x y d : Int} (hd : 1 ≤ d ∧ d ≤ 2000000000) (hx : -2000000000 ≤ x ∧ x ≤ 2000000000) (hy : -2000000000 ≤ y ∧ y ≤ 2000000000) : ∃ w : F3, okT w = true ∧ reT w = rv x d ∧ imT w = rv y d := by
  obtain ⟨p, q, r, e⟩ := low_told hd.1 hd.2 hx hy
  exact ⟨(p, q, r), low_val hd.1 e⟩
theorem make_small {x y d : Int} (hd : 1 ≤ d ∧ d ≤ 2000000000) (hx : -2000000000 ≤ x ∧ x ≤ 2000000000) (hy : -2000000000 ≤ y ∧ y ≤ 2000000000) : ∃ p q r, makeF x y d = some (p, q, r) ∧ okF p q r = true ∧ rv p r = rv x d ∧ rv q r = rv y d := by
  obtain ⟨p, q, r, e⟩ := low_told hd.1 hd.2 hx hy
  refine ⟨p, q, r, ?_, low_val hd.1 e⟩
  unfold makeF inB
  rw [if_pos (by simp only [Bool.and_eq_true, decide_eq_true_eq]; omega)]
  exact e
theorem rv_mul {x y n m : Int} (hn : 1 ≤ n) (hm : 1 ≤ m) : rv x n * rv y m = rv (x * y) (n * m) := by
  have h1 := ne0 hn
  have h2 := ne0 hm
  unfold rv
  have e1 : ((x * y : Int) : Rat) = (x : Rat) * y := by exact_mod_cast rfl
  have e2 : ((n * m : Int) : Rat) = (n : Rat) * m := by exact_mod_cast rfl
  rw [e1, e2]
  grind
theorem rv_add (x y n : Int) : rv (x + y) n = rv x n + rv y n := by
  unfold rv
  have e1 : ((x + y : Int) : Rat) = (x : Rat) + y := by exact_mod_cast rfl
  rw [e1]
  grind
theorem rv_sub (x y n : Int) : rv (x - y) n = rv x n - rv y n := by
  unfold rv
  have e1 : ((x - y : Int) : Rat) = (x : Rat) - y := by exact_mod_cast rfl
  rw [e1]
  grind
theorem rv_self {n : Int} (hn : 1 ≤ n) : rv n n = 1 := by
  have := ne0 hn
  unfold rv
  grind
/-- Products are told where their values are those of small parts. -/
theorem tT_told {u v : F3} {x y d : Int} (hu : okT u = true) (hv : okT v = true) (hd : 1 ≤ d ∧ d ≤ 2000000000) (hx : -2000000000 ≤ x ∧ x ≤ 2000000000) (hy : -2000000000 ≤ y ∧ y ≤ 2000000000)
    (e : reT u * reT v - imT u * imT v = rv x d) (f : reT u * imT v + imT u * reT v = rv y d) : ∃ w, tT u v = some w ∧ okT w = true ∧ reT w = rv x d ∧ imT w = rv y d := by
  obtain ⟨w, h1, h2, h3⟩ := frac_of hd hx hy
  exact ⟨w, tT_of hu hv h1 (by rw [h2, e]) (by rw [h3, f]), h1, h2, h3⟩
theorem sT_told {u v : F3} {x y d : Int} (hu : okT u = true) (hv : okT v = true) (hd : 1 ≤ d ∧ d ≤ 2000000000) (hx : -2000000000 ≤ x ∧ x ≤ 2000000000) (hy : -2000000000 ≤ y ∧ y ≤ 2000000000)
    (e : reT u + reT v = rv x d) (f : imT u + imT v = rv y d) : ∃ w, sT u v = some w ∧ okT w = true ∧ reT w = rv x d ∧ imT w = rv y d := by
  obtain ⟨w, h1, h2, h3⟩ := frac_of hd hx hy
  exact ⟨w, sT_of hu hv h1 (by rw [h2, e]) (by rw [h3, f]), h1, h2, h3⟩
/-- Two products of fractions over n, added up, are told. -/
theorem inT_told {u v x y : F3} {n u1 u2 v1 v2 x1 x2 y1 y2 : Int} (hn : 1 ≤ n ∧ n ≤ 20000) (ou : okT u = true) (ov : okT v = true) (ox : okT x = true) (oy : okT y = true)
    (bu : -n ≤ u1 ∧ u1 ≤ n ∧ -n ≤ u2 ∧ u2 ≤ n) (bv : -n ≤ v1 ∧ v1 ≤ n ∧ -n ≤ v2 ∧ v2 ≤ n) (bx : -n ≤ x1 ∧ x1 ≤ n ∧ -n ≤ x2 ∧ x2 ≤ n) (by' : -n ≤ y1 ∧ y1 ≤ n ∧ -n ≤ y2 ∧ y2 ≤ n)
    (ru : reT u = rv u1 n ∧ imT u = rv u2 n) (r_v : reT v = rv v1 n ∧ imT v = rv v2 n) (rx : reT x = rv x1 n ∧ imT x = rv x2 n) (ry : reT y = rv y1 n ∧ imT y = rv y2 n) :
    ∃ w, inT u v x y = some w ∧ okT w = true ∧ reT w = reT u * reT v - imT u * imT v + (reT x * reT y - imT x * imT y) ∧ imT w = reT u * imT v + imT u * reT v + (reT x * imT y + imT x * reT y) := by
  have B : ∀ {a b : Int}, -n ≤ a → a ≤ n → -n ≤ b → b ≤ n → -400000000 ≤ a * b ∧ a * b ≤ 400000000 := by
    intro a b h1 h2 h3 h4
    have := mul_bd (a := a) (b := b) (m := 20000) (n := 20000) (by omega) (by omega) (by omega) (by omega)
    omega
  have hnn : 1 ≤ n * n ∧ n * n ≤ 2000000000 := by
    have h1 := mul_pos1 hn.1 hn.1
    have h2 := B (a := n) (b := n) (by omega) (by omega) (by omega) (by omega)
    omega
  have a1 := B bu.1 bu.2.1 bv.1 bv.2.1
  have a2 := B bu.2.2.1 bu.2.2.2 bv.2.2.1 bv.2.2.2
  have a3 := B bu.1 bu.2.1 bv.2.2.1 bv.2.2.2
  have a4 := B bu.2.2.1 bu.2.2.2 bv.1 bv.2.1
  have c1 := B bx.1 bx.2.1 by'.1 by'.2.1
  have c2 := B bx.2.2.1 bx.2.2.2 by'.2.2.1 by'.2.2.2
  have c3 := B bx.1 bx.2.1 by'.2.2.1 by'.2.2.2
  have c4 := B bx.2.2.1 bx.2.2.2 by'.1 by'.2.1
  have E : ∀ {a b : Int}, rv a n * rv b n = rv (a * b) (n * n) := rv_mul hn.1 hn.1
  obtain ⟨m, m1, m2, m3, m4⟩ := tT_told (u := u) (v := v) (x := u1 * v1 - u2 * v2) (y := u1 * v2 + u2 * v1) ou ov hnn (by omega) (by omega) (by rw [ru.1, ru.2, r_v.1, r_v.2, E, E, rv_sub]) (by rw [ru.1, ru.2, r_v.1, r_v.2, E, E, rv_add])
  obtain ⟨k, k1, k2, k3, k4⟩ := tT_told (u := x) (v := y) (x := x1 * y1 - x2 * y2) (y := x1 * y2 + x2 * y1) ox oy hnn (by omega) (by omega) (by rw [rx.1, rx.2, ry.1, ry.2, E, E, rv_sub]) (by rw [rx.1, rx.2, ry.1, ry.2, E, E, rv_add])
  obtain ⟨w, w1, w2, -, -⟩ := sT_told (u := m) (v := k) (x := (u1 * v1 - u2 * v2) + (x1 * y1 - x2 * y2)) (y := (u1 * v2 + u2 * v1) + (x1 * y2 + x2 * y1)) m2 k2 hnn (by omega) (by omega) (by rw [m3, k3, ← rv_add]) (by rw [m4, k4, ← rv_add])
  have W := inT_of m1 k1 w1
  exact ⟨w, W, w2, (inT_val W).2.2.2.2.2.1, (inT_val W).2.2.2.2.2.2⟩
/-- What a direction is. -/
theorem dir_val {p q : Int} (h : dirB p q = true) : ∃ n x y : Int, n = p * p + q * q ∧ x = p * p - q * q ∧ y = 2 * p * q ∧ 1 ≤ n ∧ n ≤ 20000 ∧ (-n ≤ x ∧ x ≤ n) ∧ (-n ≤ y ∧ y ≤ n) ∧ rv x n * rv x n + rv y n * rv y n = 1 ∧
    okT (dirC p q) = true ∧ reT (dirC p q) = rv x n ∧ (dirC p q).2.1 = 0 ∧ okT (dirS p q) = true ∧ reT (dirS p q) = rv y n ∧ (dirS p q).2.1 = 0 ∧
    makeF x 0 n = some (dirC p q) ∧ makeF y 0 n = some (dirS p q) := by
  unfold dirB at h
  simp only [Bool.and_eq_true, Bool.not_eq_true', Bool.and_eq_false_iff, beq_eq_false_iff_ne] at h
  obtain ⟨⟨hp, hq⟩, h0⟩ := h
  have hp := inB_bd hp
  have hq := inB_bd hq
  have sq : ∀ {a : Int}, -100 ≤ a → a ≤ 100 → 0 ≤ a * a ∧ a * a ≤ 10000 := by
    intro a h1 h2
    have := mul_bd (a := a) (b := a) (m := 100) (n := 100) (by omega) (by omega) (by omega) (by omega)
    exact ⟨isq_nonneg a, by omega⟩
  have sz : ∀ {a : Int}, a ≠ 0 → 1 ≤ a * a := by
    intro a h1
    have h2 : a * a ≠ 0 := fun e => by rcases Int.mul_eq_zero.1 e with k | k <;> exact h1 k
    have := isq_nonneg a
    omega
  have sp := sq hp.1 hp.2
  have sq' := sq hq.1 hq.2
  have n1 : 1 ≤ p * p + q * q := by
    rcases h0 with h0 | h0
    · have := sz h0; omega
    · have := sz h0; omega
  have y1 : -(p * p + q * q) ≤ 2 * p * q ∧ 2 * p * q ≤ p * p + q * q := by
    have e1 : (p - q) * (p - q) = p * p + q * q - 2 * p * q := by grind
    have e2 : (p + q) * (p + q) = p * p + q * q + 2 * p * q := by grind
    have g1 := isq_nonneg (p - q)
    have g2 := isq_nonneg (p + q)
    omega
  obtain ⟨c1, c2, c3, hc, oc, rc, ic⟩ := make_small (x := p * p - q * q) (y := 0) (d := p * p + q * q) (by omega) (by omega) (by omega)
  obtain ⟨s1, s2, s3, hs, os, rs, is⟩ := make_small (x := 2 * p * q) (y := 0) (d := p * p + q * q) (by omega) (by omega) (by omega)
  have ec : dirC p q = (c1, c2, c3) := by unfold dirC; rw [hc]; rfl
  have es : dirS p q = (s1, s2, s3) := by unfold dirS; rw [hs]; rfl
  have zc : c2 = 0 := real0 oc (by rw [ic, rv_zero])
  have zs : s2 = 0 := real0 os (by rw [is, rv_zero])
  refine ⟨p * p + q * q, p * p - q * q, 2 * p * q, rfl, rfl, rfl, n1, by omega, by omega, y1, ?_, by rw [ec]; exact oc, by rw [ec]; exact rc, by rw [ec]; exact zc, by rw [es]; exact os, by rw [es]; exact rs, by rw [es]; exact zs, by rw [ec]; exact hc, by rw [es]; exact hs⟩
  have hn := ne0 n1
  have e1 : (((p * p + q * q) * (p * p + q * q) : Int) : Rat) = (((p * p - q * q) * (p * p - q * q) + 2 * p * q * (2 * p * q) : Int) : Rat) := by
    congr 1
    grind
  have e2 : ((p * p + q * q : Int) : Rat) * ((p * p + q * q : Int) : Rat) = ((p * p - q * q : Int) : Rat) * ((p * p - q * q : Int) : Rat) + ((2 * p * q : Int) : Rat) * ((2 * p * q : Int) : Rat) := by exact_mod_cast e1
  unfold rv
  generalize ((p * p + q * q : Int) : Rat) = N at *
  generalize ((p * p - q * q : Int) : Rat) = X at *
  generalize ((2 * p * q : Int) : Rat) = Y at *
  have : X / N * (X / N) + Y / N * (Y / N) = (X * X + Y * Y) / (N * N) := by grind
  rw [this, ← e2]
  grind
theorem neg_ok {u : F3} (h : okT u = true) (z : u.2.1 = 0) : okT (negT u) = true ∧ reT (negT u) = -reT u ∧ imT (negT u) = 0 := by
  obtain ⟨a, b, c⟩ := u
  have z' : b = 0 := z
  subst z'
  have e : (0 : Int) - a = -a := by omega
  have h' : okF a 0 c = true := h
  refine ⟨?_, ?_, rv_zero _⟩
  · show okF (0 - a) 0 c = true
    rw [e, okF_neg1']
    exact h'
  · show rv (0 - a) c = -rv a c
    rw [e, rv_neg]
theorem bar_real {u : F3} (z : u.2.1 = 0) : barT u = u := by
  obtain ⟨a, b, c⟩ := u
  have z' : b = 0 := z
  subst z'
  rfl
theorem rot_some {p q : Int} (h : dirB p q = true) : rotM p q = some (dirC p q, negT (dirS p q), dirS p q, dirC p q) := by
  unfold rotM
  rw [if_pos h]
theorem rot_not {p q : Int} (h : dirB p q = false) : rotM p q = none := by
  unfold rotM
  rw [if_neg (by rw [h]; decide)]
theorem rot_ok {p q : Int} {R : F4} (h : rotM p q = some R) : dirB p q = true ∧ okM R = true := by
  cases hd : dirB p q with
  | false => rw [rot_not hd] at h; cases h
  | true =>
    rw [rot_some hd] at h
    obtain rfl := (Option.some.inj h).symm
    obtain ⟨n, x, y, -, -, -, -, -, -, -, -, oc, -, zc, os, -, zs, -, -⟩ := dir_val hd
    exact ⟨rfl, okM_mk oc (neg_ok os zs).1 os oc⟩
theorem dir_neg {p q : Int} (h : dirB p q = true) : dirB p (0 - q) = true ∧ dirC p (0 - q) = dirC p q ∧ dirS p (0 - q) = negT (dirS p q) := by
  have h2 : dirB p (0 - q) = true := by
    unfold dirB inB at h ⊢
    simp only [Bool.and_eq_true, Bool.not_eq_true', Bool.and_eq_false_iff, beq_eq_false_iff_ne, decide_eq_true_eq] at h ⊢
    omega
  obtain ⟨n, x, y, e1, e2, e3, n1, n2, bx, by', sq, oc, rc, zc, os, rs, zs, mc, ms⟩ := dir_val h
  obtain ⟨n', x', y', e1', e2', e3', n1', n2', bx', by'', sq', oc', rc', zc', os', rs', zs', mc', ms'⟩ := dir_val h2
  have en : n' = n := by rw [e1', e1]; grind
  have ex : x' = x := by rw [e2', e2]; grind
  have ey : y' = -y := by rw [e3', e3]; grind
  subst en ex ey
  refine ⟨h2, ?_, ?_⟩
  · rw [mc] at mc'
    exact (Option.some.inj mc').symm
  · obtain ⟨k1, k2, k3⟩ := neg_ok os zs
    exact uniqT os' k1 (by rw [rs', k2, rs, rv_neg]) (by rw [k3, im0 zs'])
theorem rot_back {p q : Int} {R : F4} (h : rotM p q = some R) : ∃ B, rotM p (0 - q) = some B ∧ adjM R = some B ∧ mulM R B = some oneM ∧ losM R = true ∧ detM R = some (1, 0, 1) := by
  obtain ⟨hd, ok⟩ := rot_ok h
  rw [rot_some hd] at h
  obtain rfl := (Option.some.inj h).symm
  obtain ⟨h2, ec, es⟩ := dir_neg hd
  obtain ⟨n, x, y, e1, e2, e3, n1, n2, bx, by', sq, oc, rc, zc, os, rs, zs, mc, ms⟩ := dir_val hd
  obtain ⟨om, rm, im⟩ := neg_ok os zs
  have nn : negT (negT (dirS p q)) = dirS p q := by
    have hz : (negT (dirS p q)).2.1 = 0 := rfl
    obtain ⟨o2, r2, i2⟩ := neg_ok om hz
    exact uniqT o2 os (by rw [r2, rm]; grind) (by rw [i2, im0 zs])
  have B : rotM p (0 - q) = some (dirC p q, dirS p q, negT (dirS p q), dirC p q) := by rw [rot_some h2, ec, es, nn]
  have A : adjM (dirC p q, negT (dirS p q), dirS p q, dirC p q) = some (dirC p q, dirS p q, negT (dirS p q), dirC p q) := by
    rw [adjM_of ok, bar_real zc, bar_real zs, bar_real (show (negT (dirS p q)).2.1 = 0 from rfl)]
  have ic := im0 zc
  have is := im0 zs
  have C : reT (dirC p q) = rv x n ∧ imT (dirC p q) = rv 0 n := ⟨rc, by rw [ic, rv_zero]⟩
  have S : reT (dirS p q) = rv y n ∧ imT (dirS p q) = rv 0 n := ⟨rs, by rw [is, rv_zero]⟩
  have M : reT (negT (dirS p q)) = rv (-y) n ∧ imT (negT (dirS p q)) = rv 0 n := ⟨by rw [rm, rs, rv_neg], by rw [im, rv_zero]⟩
  have sq2 : reT (dirC p q) * reT (dirC p q) + reT (dirS p q) * reT (dirS p q) = 1 := by rw [rc, rs]; exact sq
  have mul : mulM (dirC p q, negT (dirS p q), dirS p q, dirC p q) (dirC p q, dirS p q, negT (dirS p q), dirC p q) = some oneM := by
    obtain ⟨w1, a1, a2, a3, a4⟩ := inT_told (u := dirC p q) (v := dirC p q) (x := negT (dirS p q)) (y := negT (dirS p q)) ⟨n1, n2⟩ oc oc om om (by omega) (by omega) (by omega) (by omega) C C M M
    obtain ⟨w2, b1, b2, b3, b4⟩ := inT_told (u := dirC p q) (v := dirS p q) (x := negT (dirS p q)) (y := dirC p q) ⟨n1, n2⟩ oc os om oc (by omega) (by omega) (by omega) (by omega) C S M C
    obtain ⟨w3, c1, c2, c3, c4⟩ := inT_told (u := dirS p q) (v := dirC p q) (x := dirC p q) (y := negT (dirS p q)) ⟨n1, n2⟩ os oc oc om (by omega) (by omega) (by omega) (by omega) S C C M
    obtain ⟨w4, d1, d2, d3, d4⟩ := inT_told (u := dirS p q) (v := dirS p q) (x := dirC p q) (y := dirC p q) ⟨n1, n2⟩ os os oc oc (by omega) (by omega) (by omega) (by omega) S S C C
    rw [rm, im, ic] at a3 a4 b4 c4
    rw [rm] at b3 c3
    rw [im, ic, is] at b3 c3
    rw [ic, is] at d3 d4
    have g1 : w1 = (1, 0, 1) := uniqT a2 okT_one (by rw [reT_one]; grind) (by rw [imT_one]; grind)
    have g2 : w2 = (0, 0, 1) := uniqT b2 okT_zero (by rw [reT_zero]; grind) (by rw [imT_zero]; grind)
    have g3 : w3 = (0, 0, 1) := uniqT c2 okT_zero (by rw [reT_zero]; grind) (by rw [imT_zero]; grind)
    have g4 : w4 = (1, 0, 1) := uniqT d2 okT_one (by rw [reT_one]; grind) (by rw [imT_one]; grind)
    subst g1 g2 g3 g4
    exact quad_of a1 b1 c1 d1
  refine ⟨_, B, A, mul, losM_of A mul, ?_⟩
  obtain ⟨u, u1, u2, u3, u4⟩ := tT_told (u := dirC p q) (v := dirC p q) (x := x * x) (y := 0) (d := n * n) oc oc (by have := mul_pos1 n1 n1; have := mul_bd (a := n) (b := n) (m := 20000) (n := 20000) (by omega) (by omega) (by omega) (by omega); omega) (by have := mul_bd (a := x) (b := x) (m := 20000) (n := 20000) (by omega) (by omega) (by omega) (by omega); omega) (by omega) (by rw [rc, ic, rv_mul n1 n1]; grind) (by rw [ic, rv_zero]; grind)
  obtain ⟨v, v1, v2, v3, v4⟩ := tT_told (u := negT (dirS p q)) (v := dirS p q) (x := -y * y) (y := 0) (d := n * n) om os (by have := mul_pos1 n1 n1; have := mul_bd (a := n) (b := n) (m := 20000) (n := 20000) (by omega) (by omega) (by omega) (by omega); omega) (by have := mul_bd (a := -y) (b := y) (m := 20000) (n := 20000) (by omega) (by omega) (by omega) (by omega); omega) (by omega) (by rw [M.1, rs, im, rv_mul n1 n1]; grind) (by rw [im, is, rv_zero]; grind)
  have hl : lT u v = some (1, 0, 1) := by
    obtain ⟨-, -, -, ru, iu⟩ := tT_val u1
    obtain ⟨-, -, -, r_v, iv⟩ := tT_val v1
    exact lT_of u2 v2 okT_one (by rw [reT_one, ru, r_v, rm, im, ic]; grind) (by rw [imT_one, iu, iv, im, ic, is]; grind)
  unfold detM lessO
  rw [u1, v1]
  exact hl

/-- A power of i in whole numbers. -/
def phr (k : Int) : Int := (phaT k).1
def phi (k : Int) : Int := (phaT k).2.1
theorem pha_in {k : Int} (h : inB k 0 3 = true) : k = 0 ∨ k = 1 ∨ k = 2 ∨ k = 3 := by
  have := inB_bd h
  omega
theorem pha_ok (k : Int) : okT (phaT k) = true ∧ reT (phaT k) = (phr k : Rat) ∧ imT (phaT k) = (phi k : Rat) ∧ -1 ≤ phr k ∧ phr k ≤ 1 ∧ -1 ≤ phi k ∧ phi k ≤ 1 ∧ (phr k : Rat) * phr k + (phi k : Rat) * phi k = 1 := by
  unfold phr phi phaT
  split
  · exact ⟨by decide, rv_one _, rv_one _, by decide, by decide, by decide, by decide, by grind⟩
  · split
    · exact ⟨by decide, rv_one _, rv_one _, by decide, by decide, by decide, by decide, by grind⟩
    · split
      · exact ⟨by decide, rv_one _, rv_one _, by decide, by decide, by decide, by decide, by grind⟩
      · exact ⟨by decide, rv_one _, rv_one _, by decide, by decide, by decide, by decide, by grind⟩
theorem rv_scale {x n k : Int} : rv (x * k) n = rv x n * (k : Rat) := by
  unfold rv
  have e1 : ((x * k : Int) : Rat) = (x : Rat) * k := by exact_mod_cast rfl
  rw [e1]
  grind
/-- A real fraction times a power of i. -/
theorem pha_times {v : F3} (h : okT v = true) (z : v.2.1 = 0) {k : Int} (hk : inB k 0 3 = true) : ∃ m, tT v (phaT k) = some m ∧ okT m = true ∧ reT m = reT v * (phr k : Rat) ∧ imT m = reT v * (phi k : Rat) := by
  obtain ⟨ok, r, i, -⟩ := pha_ok k
  have iz := im0 z
  obtain ⟨a, b, c⟩ := v
  have z' : b = 0 := z
  subst z'
  have h' : okF a 0 c = true := h
  have key : ∀ m : F3, okT m = true → reT m = reT (a, 0, c) * (phr k : Rat) → imT m = reT (a, 0, c) * (phi k : Rat) → ∃ m, tT (a, 0, c) (phaT k) = some m ∧ okT m = true ∧ reT m = reT (a, 0, c) * (phr k : Rat) ∧ imT m = reT (a, 0, c) * (phi k : Rat) :=
    fun m o e f => ⟨m, tT_of h ok o (by rw [e, r, i, iz]; grind) (by rw [f, r, i, iz]; grind), o, e, f⟩
  have e1 : ((1 : Int) : Rat) = 1 := by exact_mod_cast rfl
  have e0 : ((0 : Int) : Rat) = 0 := by exact_mod_cast rfl
  have em : ((-1 : Int) : Rat) = -1 := by exact_mod_cast rfl
  rcases pha_in hk with rfl | rfl | rfl | rfl
  · refine key (a, 0, c) h ?_ ?_
    · rw [show phr 0 = 1 from rfl, e1]; grind
    · rw [show phi 0 = 0 from rfl, e0, iz]; grind
  · refine key (0, a, c) (by show okF 0 a c = true; rw [okF_swap]; exact h') ?_ ?_
    · rw [show phr 1 = 0 from rfl, e0, show reT (0, a, c) = 0 from rv_zero c]; grind
    · rw [show phi 1 = 1 from rfl, e1, show imT (0, a, c) = reT (a, 0, c) from rfl]; grind
  · refine key (-a, 0, c) (by show okF (-a) 0 c = true; rw [okF_neg1']; exact h') ?_ ?_
    · rw [show phr 2 = -1 from rfl, em, show reT (-a, 0, c) = -reT (a, 0, c) from rv_neg a c]; grind
    · rw [show phi 2 = 0 from rfl, e0, show imT (-a, 0, c) = 0 from rv_zero c]; grind
  · refine key (0, -a, c) (by show okF 0 (-a) c = true; rw [okF_swap, okF_neg1']; exact h') ?_ ?_
    · rw [show phr 3 = 0 from rfl, e0, show reT (0, -a, c) = 0 from rv_zero c]; grind
    · rw [show phi 3 = -1 from rfl, em, show imT (0, -a, c) = -reT (a, 0, c) from rv_neg a c]; grind
/-- What a plate is. -/
theorem pla_val {p q k : Int} (h : dirB p q = true) (hk : inB k 0 3 = true) : ∃ w x y z : F3, ∃ C S : Rat, plaM p q k = some (w, x, y, z) ∧ okM (w, x, y, z) = true ∧ C = reT (dirC p q) ∧ S = reT (dirS p q) ∧ C * C + S * S = 1 ∧
    reT w = C * C + S * S * (phr k : Rat) ∧ imT w = S * S * (phi k : Rat) ∧ reT x = C * S - S * C * (phr k : Rat) ∧ imT x = -(S * C * (phi k : Rat)) ∧
    reT y = C * S - S * C * (phr k : Rat) ∧ imT y = -(S * C * (phi k : Rat)) ∧ reT z = S * S + C * C * (phr k : Rat) ∧ imT z = C * C * (phi k : Rat) := by
  obtain ⟨n, x, y, e1, e2, e3, n1, n2, bx, by', sq, oc, rc, zc, os, rs, zs, mc, ms⟩ := dir_val h
  obtain ⟨om, rm, im⟩ := neg_ok os zs
  obtain ⟨ou, ru, iu, u1, u2, u3, u4, uu⟩ := pha_ok k
  have ic := im0 zc
  have is := im0 zs
  have C : reT (dirC p q) = rv x n ∧ imT (dirC p q) = rv 0 n := ⟨rc, by rw [ic, rv_zero]⟩
  have S : reT (dirS p q) = rv y n ∧ imT (dirS p q) = rv 0 n := ⟨rs, by rw [is, rv_zero]⟩
  have M : reT (negT (dirS p q)) = rv (-y) n ∧ imT (negT (dirS p q)) = rv 0 n := ⟨by rw [rm, rs, rv_neg], by rw [im, rv_zero]⟩
  obtain ⟨mu, a1, a2, a3, a4⟩ := pha_times om (show (negT (dirS p q)).2.1 = 0 from rfl) hk
  obtain ⟨cu, b1, b2, b3, b4⟩ := pha_times oc zc hk
  have MU : reT mu = rv (-y * phr k) n ∧ imT mu = rv (-y * phi k) n := ⟨by rw [a3, M.1, rv_scale], by rw [a4, M.1, rv_scale]⟩
  have CU : reT cu = rv (x * phr k) n ∧ imT cu = rv (x * phi k) n := ⟨by rw [b3, C.1, rv_scale], by rw [b4, C.1, rv_scale]⟩
  have ux : ∀ {a u : Int}, -n ≤ a ∧ a ≤ n → -1 ≤ u → u ≤ 1 → -n ≤ a * u ∧ a * u ≤ n := by
    intro a u ha h1 h2
    have : u = -1 ∨ u = 0 ∨ u = 1 := by omega
    rcases this with rfl | rfl | rfl <;> omega
  have B1 := ux (a := -y) (u := phr k) (by omega) u1 u2
  have B2 := ux (a := -y) (u := phi k) (by omega) u3 u4
  have B3 := ux (a := x) (u := phr k) (by omega) u1 u2
  have B4 := ux (a := x) (u := phi k) (by omega) u3 u4
  have R := rot_some h
  have A : adjM (dirC p q, negT (dirS p q), dirS p q, dirC p q) = some (dirC p q, dirS p q, negT (dirS p q), dirC p q) := by
    rw [adjM_of (rot_ok R).2, bar_real zc, bar_real zs, bar_real (show (negT (dirS p q)).2.1 = 0 from rfl)]
  have X : mulM (dirC p q, negT (dirS p q), dirS p q, dirC p q) (diaM (phaT k)) = some (dirC p q, mu, dirS p q, cu) :=
    quad_of (inT_of (tT_one oc) (tT_zero om) (sT_zero oc)) (inT_of (tT_zero oc) a1 (sT_zero' a2)) (inT_of (tT_one os) (tT_zero oc) (sT_zero os)) (inT_of (tT_zero os) b1 (sT_zero' b2))
  obtain ⟨w1, c1, c2, c3, c4⟩ := inT_told (u := dirC p q) (v := dirC p q) (x := mu) (y := negT (dirS p q)) ⟨n1, n2⟩ oc oc a2 om (by omega) (by omega) (by omega) (by omega) C C MU M
  obtain ⟨w2, d1, d2, d3, d4⟩ := inT_told (u := dirC p q) (v := dirS p q) (x := mu) (y := dirC p q) ⟨n1, n2⟩ oc os a2 oc (by omega) (by omega) (by omega) (by omega) C S MU C
  obtain ⟨w3, f1, f2, f3, f4⟩ := inT_told (u := dirS p q) (v := dirC p q) (x := cu) (y := negT (dirS p q)) ⟨n1, n2⟩ os oc b2 om (by omega) (by omega) (by omega) (by omega) S C CU M
  obtain ⟨w4, g1, g2, g3, g4⟩ := inT_told (u := dirS p q) (v := dirS p q) (x := cu) (y := dirC p q) ⟨n1, n2⟩ os os b2 oc (by omega) (by omega) (by omega) (by omega) S S CU C
  refine ⟨w1, w2, w3, w4, reT (dirC p q), reT (dirS p q), ?_, okM_mk c2 d2 f2 g2, rfl, rfl, by rw [rc, rs]; exact sq, ?_, ?_, ?_, ?_, ?_, ?_, ?_, ?_⟩
  · unfold plaM
    rw [if_pos hk, R, Option.bind_some, A, Option.bind_some, X, Option.bind_some]
    exact quad_of c1 d1 f1 g1
  · rw [c3, a3, a4, rm, im, ic]; grind
  · rw [c4, a3, a4, rm, im, ic]; grind
  · rw [d3, a3, a4, rm, is, ic]; grind
  · rw [d4, a3, a4, rm, is, ic]; grind
  · rw [f3, b3, b4, rm, im, is, ic]; grind
  · rw [f4, b3, b4, rm, im, is, ic]; grind
  · rw [g3, b3, b4, is, ic]; grind
  · rw [g4, b3, b4, is, ic]; grind
theorem pla_some {p q k : Int} {P : F4} (h : plaM p q k = some P) : dirB p q = true ∧ inB k 0 3 = true ∧ okM P = true := by
  have hk : inB k 0 3 = true := by
    cases hk : inB k 0 3 with
    | true => rfl
    | false => unfold plaM at h; rw [if_neg (by rw [hk]; decide)] at h; cases h
  have hd : dirB p q = true := by
    cases hd : dirB p q with
    | true => rfl
    | false => unfold plaM at h; rw [if_pos hk, rot_not hd] at h; cases h
  obtain ⟨w, x, y, z, C, S, h1, h2, -⟩ := pla_val hd hk
  rw [h] at h1
  obtain rfl := (Option.some.inj h1)
  exact ⟨hd, hk, h2⟩
theorem pla_los {p q k : Int} {P B Q : F4} (h : plaM p q k = some P) (hb : adjM P = some B) (hq : mulM P B = some Q) : losM P = true := by
  obtain ⟨hd, hk, -⟩ := pla_some h
  obtain ⟨w, x, y, z, C, S, h1, h2, hC, hS, sq, r1, i1, r2, i2, r3, i3, r4, i4⟩ := pla_val hd hk
  rw [h] at h1
  obtain rfl := (Option.some.inj h1)
  obtain ⟨-, -, -, -, -, -, -, uu⟩ := pha_ok k
  obtain ⟨-, rfl⟩ := adjM_some hb
  obtain ⟨q1, q2, q3, q4⟩ := Q
  obtain ⟨e1, e2, e3, e4⟩ := mulM_some hq
  obtain ⟨-, -, -, -, o1, a1, b1⟩ := inT_val e1
  obtain ⟨-, -, -, -, o2, a2, b2⟩ := inT_val e2
  obtain ⟨-, -, -, -, o3, a3, b3⟩ := inT_val e3
  obtain ⟨-, -, -, -, o4, a4, b4⟩ := inT_val e4
  simp only [reT_bar, imT_bar] at a1 b1 a2 b2 a3 b3 a4 b4
  rw [r1, i1, r2, i2] at a1 b1
  rw [r1, i1, r2, i2, r3, i3, r4, i4] at a2 b2 a3 b3
  rw [r3, i3, r4, i4] at a4 b4
  generalize (phr k : Rat) = U at *
  generalize (phi k : Rat) = V at *
  have g1 : q1 = (1, 0, 1) := uniqT o1 okT_one (by rw [reT_one]; grind) (by rw [imT_one]; grind)
  have g2 : q2 = (0, 0, 1) := uniqT o2 okT_zero (by rw [reT_zero]; grind) (by rw [imT_zero]; grind)
  have g3 : q3 = (0, 0, 1) := uniqT o3 okT_zero (by rw [reT_zero]; grind) (by rw [imT_zero]; grind)
  have g4 : q4 = (1, 0, 1) := uniqT o4 okT_one (by rw [reT_one]; grind) (by rw [imT_one]; grind)
  subst g1 g2 g3 g4
  exact losM_of hb hq
theorem pla_det {p q k : Int} {P : F4} {d : F3} (h : plaM p q k = some P) (hd' : detM P = some d) : d = phaT k := by
  obtain ⟨hd, hk, -⟩ := pla_some h
  obtain ⟨w, x, y, z, C, S, h1, h2, hC, hS, sq, r1, i1, r2, i2, r3, i3, r4, i4⟩ := pla_val hd hk
  rw [h] at h1
  obtain rfl := (Option.some.inj h1)
  obtain ⟨ou, ru, iu, -, -, -, -, uu⟩ := pha_ok k
  obtain ⟨-, od, rd, id⟩ := detM_val hd'
  rw [r1, i1, r2, i2, r3, i3, r4, i4] at rd id
  refine uniqT od ou ?_ ?_
  · rw [rd, ru]
    generalize (phr k : Rat) = U at *
    generalize (phi k : Rat) = V at *
    have : (C * C + S * S * U) * (S * S + C * C * U) - S * S * V * (C * C * V) - ((C * S - S * C * U) * (C * S - S * C * U) - -(S * C * V) * -(S * C * V)) = U * ((C * C + S * S) * (C * C + S * S)) := by grind
    rw [this, sq]; grind
  · rw [id, iu]
    generalize (phr k : Rat) = U at *
    generalize (phi k : Rat) = V at *
    have : (C * C + S * S * U) * (C * C * V) + S * S * V * (S * S + C * C * U) - ((C * S - S * C * U) * -(S * C * V) + -(S * C * V) * (C * S - S * C * U)) = V * ((C * C + S * S) * (C * C + S * S)) := by grind
    rw [this, sq]; grind
theorem pha_next {k : Int} (hk : inB k 0 3 = true) : inB ((k + 1) % 4) 0 3 = true ∧ phr ((k + 1) % 4) = -phi k ∧ phi ((k + 1) % 4) = phr k := by
  rcases pha_in hk with rfl | rfl | rfl | rfl <;> decide
theorem pla_next {p q k : Int} {P : F4} (h : plaM p q k = some P) : ∃ O Y, plaM p q 1 = some O ∧ plaM p q ((k + 1) % 4) = some Y ∧ ∀ X, mulM P O = some X → X = Y := by
  obtain ⟨hd, hk, -⟩ := pla_some h
  obtain ⟨n1, n2, n3⟩ := pha_next hk
  obtain ⟨w, x, y, z, C, S, h1, h2, hC, hS, sq, r1, i1, r2, i2, r3, i3, r4, i4⟩ := pla_val hd hk
  rw [h] at h1
  obtain rfl := (Option.some.inj h1)
  obtain ⟨w', x', y', z', C', S', h1', h2', hC', hS', sq', r1', i1', r2', i2', r3', i3', r4', i4'⟩ := pla_val hd (show inB 1 0 3 = true by decide)
  obtain ⟨w2, x2, y2, z2, C2, S2, h12, h22, hC2, hS2, sq2, r12, i12, r22, i22, r32, i32, r42, i42⟩ := pla_val hd n1
  refine ⟨_, _, h1', h12, ?_⟩
  rintro ⟨q1, q2, q3, q4⟩ hq
  obtain ⟨ow, ox, oy, oz⟩ := okM_of h22
  have eC : C' = C := by rw [hC', hC]
  have eS : S' = S := by rw [hS', hS]
  have eC2 : C2 = C := by rw [hC2, hC]
  have eS2 : S2 = S := by rw [hS2, hS]
  subst eC eS eC2 eS2
  obtain ⟨e1, e2, e3, e4⟩ := mulM_some hq
  obtain ⟨-, -, -, -, o1, a1, b1⟩ := inT_val e1
  obtain ⟨-, -, -, -, o2, a2, b2⟩ := inT_val e2
  obtain ⟨-, -, -, -, o3, a3, b3⟩ := inT_val e3
  obtain ⟨-, -, -, -, o4, a4, b4⟩ := inT_val e4
  have u0 : (phr 1 : Rat) = 0 := by rw [show phr 1 = 0 from rfl]; exact_mod_cast rfl
  have v0 : (phi 1 : Rat) = 1 := by rw [show phi 1 = 1 from rfl]; exact_mod_cast rfl
  have u2 : (phr ((k + 1) % 4) : Rat) = -(phi k : Rat) := by rw [n2]; exact_mod_cast rfl
  have v2 : (phi ((k + 1) % 4) : Rat) = (phr k : Rat) := by rw [n3]
  rw [u0] at r1' r2' r3' r4'
  rw [v0] at i1' i2' i3' i4'
  rw [u2] at r12 r22 r32 r42
  rw [v2] at i12 i22 i32 i42
  rw [r1, i1, r2, i2, r1', i1', r3', i3'] at a1 b1
  rw [r1, i1, r2, i2, r2', i2', r4', i4'] at a2 b2
  rw [r3, i3, r4, i4, r1', i1', r3', i3'] at a3 b3
  rw [r3, i3, r4, i4, r2', i2', r4', i4'] at a4 b4
  clear r1 i1 r2 i2 r3 i3 r4 i4 r1' i1' r2' i2' r3' i3' r4' i4' u0 v0 u2 v2 e1 e2 e3 e4 hC hS hC' hS' hC2 hS2
  generalize (phr k : Rat) = U at *
  generalize (phi k : Rat) = V at *
  have g1 : q1 = w2 := uniqT o1 ow (by rw [a1, r12]; grind) (by rw [b1, i12]; grind)
  have g2 : q2 = x2 := uniqT o2 ox (by rw [a2, r22]; grind) (by rw [b2, i22]; grind)
  have g3 : q3 = y2 := uniqT o3 oy (by rw [a3, r32]; grind) (by rw [b3, i32]; grind)
  have g4 : q4 = z2 := uniqT o4 oz (by rw [a4, r42]; grind) (by rw [b4, i42]; grind)
  rw [g1, g2, g3, g4]
/-- What a filter is. -/
theorem fil_val {p q : Int} {F : F4} (h : filM p q = some F) : ∃ a b d : F3, ∃ C S : Rat, F = (a, b, b, d) ∧ C * C + S * S = 1 ∧ okT a = true ∧ okT b = true ∧ okT d = true ∧ a.2.1 = 0 ∧ b.2.1 = 0 ∧ d.2.1 = 0 ∧ reT a = C * C ∧ reT b = C * S ∧ reT d = S * S := by
  cases hd : dirB p q with
  | false => unfold filM at h; rw [if_neg (by rw [hd]; decide)] at h; cases h
  | true =>
    obtain ⟨n, x, y, e1, e2, e3, n1, n2, bx, by', sq, oc, rc, zc, os, rs, zs, mc, ms⟩ := dir_val hd
    unfold filM at h
    rw [if_pos hd] at h
    cases ha : tT (dirC p q) (dirC p q) with
    | none => rw [ha] at h; cases h
    | some a =>
      cases hb : tT (dirC p q) (dirS p q) with
      | none => rw [ha, hb] at h; cases h
      | some b =>
        cases hf : tT (dirS p q) (dirS p q) with
        | none => rw [ha, hb, hf] at h; cases h
        | some d =>
          rw [ha, hb, hf] at h
          obtain ⟨-, -, oa, ra, ia⟩ := tT_val ha
          obtain ⟨-, -, ob, rb, ib⟩ := tT_val hb
          obtain ⟨-, -, od, rd, id⟩ := tT_val hf
          rw [im0 zc] at ra ia rb ib
          rw [im0 zs] at rb ib rd id
          have z : ∀ {u : F3}, okT u = true → imT u = 0 → u.2.1 = 0 := fun o e => real0 o e
          exact ⟨a, b, d, reT (dirC p q), reT (dirS p q), (Option.some.inj h).symm, by rw [rc, rs]; exact sq, oa, ob, od, z oa (by grind), z ob (by grind), z od (by grind), by grind, by grind, by grind⟩
theorem fil_ok {p q : Int} {F : F4} (h : filM p q = some F) : okM F = true := by
  obtain ⟨a, b, d, C, S, rfl, sq, oa, ob, od, -⟩ := fil_val h
  exact okM_mk oa ob ob od
theorem fil_adj {p q : Int} {F : F4} (h : filM p q = some F) : adjM F = some F := by
  have hk := fil_ok h
  obtain ⟨a, b, d, C, S, rfl, sq, oa, ob, od, za, zb, zd, -⟩ := fil_val h
  rw [adjM_of hk, bar_real za, bar_real zb, bar_real zd]
theorem fil_twice {p q : Int} {F X : F4} (h : filM p q = some F) (hx : mulM F F = some X) : X = F := by
  obtain ⟨a, b, d, C, S, rfl, sq, oa, ob, od, za, zb, zd, ra, rb, rd⟩ := fil_val h
  obtain ⟨q1, q2, q3, q4⟩ := X
  obtain ⟨e1, e2, e3, e4⟩ := mulM_some hx
  obtain ⟨-, -, -, -, o1, a1, b1⟩ := inT_val e1
  obtain ⟨-, -, -, -, o2, a2, b2⟩ := inT_val e2
  obtain ⟨-, -, -, -, o3, a3, b3⟩ := inT_val e3
  obtain ⟨-, -, -, -, o4, a4, b4⟩ := inT_val e4
  rw [im0 za, im0 zb] at a1 b1
  rw [im0 za, im0 zb, im0 zd] at a2 b2
  rw [im0 za, im0 zb, im0 zd] at a3 b3
  rw [im0 zb, im0 zd] at a4 b4
  have g1 : q1 = a := uniqT o1 oa (by rw [a1, ra, rb]; have : C * C * (C * C) - 0 * 0 + (C * S * (C * S) - 0 * 0) = C * C * (C * C + S * S) := by grind
                                      rw [this, sq]; grind) (by rw [b1, im0 za]; grind)
  have g2 : q2 = b := uniqT o2 ob (by rw [a2, ra, rb, rd]; have : C * C * (C * S) - 0 * 0 + (C * S * (S * S) - 0 * 0) = C * S * (C * C + S * S) := by grind
                                      rw [this, sq]; grind) (by rw [b2, im0 zb]; grind)
  have g3 : q3 = b := uniqT o3 ob (by rw [a3, ra, rb, rd]; have : C * S * (C * C) - 0 * 0 + (S * S * (C * S) - 0 * 0) = C * S * (C * C + S * S) := by grind
                                      rw [this, sq]; grind) (by rw [b3, im0 zb]; grind)
  have g4 : q4 = d := uniqT o4 od (by rw [a4, rb, rd]; have : C * S * (C * S) - 0 * 0 + (S * S * (S * S) - 0 * 0) = S * S * (C * C + S * S) := by grind
                                      rw [this, sq]; grind) (by rw [b4, im0 zd]; grind)
  rw [g1, g2, g3, g4]
theorem fil_det {p q : Int} {F : F4} {d : F3} (h : filM p q = some F) (hd : detM F = some d) : d = (0, 0, 1) := by
  obtain ⟨a, b, d', C, S, rfl, sq, oa, ob, od, za, zb, zd, ra, rb, rd⟩ := fil_val h
  obtain ⟨-, o, r, i⟩ := detM_val hd
  rw [im0 za, im0 zb, im0 zd, ra, rb, rd] at r
  rw [im0 za, im0 zb, im0 zd] at i
  exact uniqT o okT_zero (by rw [reT_zero, r]; grind) (by rw [imT_zero, i]; grind)
end Go.Proofs.YtkdkeacfifjjoabDoor
