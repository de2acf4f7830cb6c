/-
  The laws of chapter 4 as plain mathematics: mirrors, sums and multiples of light.
-/
import Derived.Test.YtnfbopaafciiiabDoorStokesMath
namespace Go.Proofs.YtnfbopaafciiiabDoor
open Go.ChangeShapes Go.WideShapes Go.ChangeAt Go.RowKit
set_option linter.unusedVariables false

theorem mirror4_some {a1 a2 a3 b1 b2 b3 c1 c2 c3 d1 d2 d3 : Int} {o : ((Int × Int × Int) × (Int × Int × Int) × (Int × Int × Int) × (Int × Int × Int))} (h : smirrorF a1 a2 a3 b1 b2 b3 c1 c2 c3 d1 d2 d3 = some o) : sValid a1 a2 a3 b1 b2 b3 c1 c2 c3 d1 d2 d3 = true ∧ o = ((a1, a2, a3), (b1, b2, b3), (c1, c2, c3), (-d1, d2, d3)) := by
  unfold smirrorF at h
  split at h
  · rename_i hv
    exact ⟨hv, (Option.some.inj h).symm⟩
  · cases h
theorem okF_swap (x y z : Int) : okF x y z = okF y x z := by
  unfold okF
  rw [gcd3_nat, gcd3_nat, Nat.gcd_assoc, Nat.gcd_comm x.natAbs, ← Nat.gcd_assoc]
  cases partB x <;> cases partB y <;> rfl
theorem okF_neg1' (x y z : Int) : okF (-x) y z = okF x y z := by rw [okF_swap, okF_neg1, okF_swap]
theorem realB_neg (x y z : Int) : realB (-x) y z = realB x y z := by
  unfold realB
  rw [okF_neg1']
theorem sValid_neg (a1 a2 a3 b1 b2 b3 c1 c2 c3 d1 d2 d3 : Int) : sValid a1 a2 a3 b1 b2 b3 c1 c2 c3 (-d1) d2 d3 = sValid a1 a2 a3 b1 b2 b3 c1 c2 c3 d1 d2 d3 := by
  unfold sValid
  rw [realB_neg]
theorem mirror4_of {a1 a2 a3 b1 b2 b3 c1 c2 c3 d1 d2 d3 : Int} (h : sValid a1 a2 a3 b1 b2 b3 c1 c2 c3 d1 d2 d3 = true) : smirrorF a1 a2 a3 b1 b2 b3 c1 c2 c3 d1 d2 d3 = some ((a1, a2, a3), (b1, b2, b3), (c1, c2, c3), (-d1, d2, d3)) := by
  unfold smirrorF
  rw [if_pos h]
theorem mirror4_back {a1 a2 a3 b1 b2 b3 c1 c2 c3 d1 d2 d3 : Int} (h : sValid a1 a2 a3 b1 b2 b3 c1 c2 c3 d1 d2 d3 = true) : smirrorF a1 a2 a3 b1 b2 b3 c1 c2 c3 (-d1) d2 d3 = some ((a1, a2, a3), (b1, b2, b3), (c1, c2, c3), (d1, d2, d3)) := by
  have := mirror4_of ((sValid_neg a1 a2 a3 b1 b2 b3 c1 c2 c3 d1 d2 d3).trans h)
  rw [Int.neg_neg] at this
  exact this
theorem times_neg_neg (x z : Int) : timesF (-x) 0 z (-x) 0 z = timesF x 0 z x 0 z := by
  unfold timesF
  have := okF_neg2 x 0 z
  simp only [Int.neg_zero] at this
  rw [this, Int.neg_mul_neg]
  simp only [Int.mul_zero, Int.zero_mul]
theorem squares_neg (a1 a2 a3 b1 b2 b3 c1 c2 c3 d1 d2 d3 : Int) : squaresF a1 a2 a3 b1 b2 b3 c1 c2 c3 (-d1) d2 d3 = squaresF a1 a2 a3 b1 b2 b3 c1 c2 c3 d1 d2 d3 := by
  unfold squaresF
  rw [sValid_neg]
  split
  · rename_i hv
    obtain ⟨_, rfl⟩ := realB_ok (sValid_ok hv).2.2.2
    rw [times_neg_neg]
  · rfl
theorem light_neg (a1 a2 a3 b1 b2 b3 c1 c2 c3 d1 d2 d3 : Int) : lightF a1 a2 a3 b1 b2 b3 c1 c2 c3 (-d1) d2 d3 = lightF a1 a2 a3 b1 b2 b3 c1 c2 c3 d1 d2 d3 := by
  unfold lightF restF
  rw [squares_neg]
theorem times_one {x z : Int} (h : okF x 0 z = true) : timesF x 0 z 1 0 1 = some (x, 0, z) := by
  refine times_ofV h (by decide) h ?_ ?_
  · rw [rv_zero, rv_one]
    have : ((1 : Int) : Rat) = 1 := by exact_mod_cast rfl
    rw [this]; grind
  · rw [rv_zero, rv_zero, rv_one]; grind
theorem stimes_one {a1 a2 a3 b1 b2 b3 c1 c2 c3 d1 d2 d3 : Int} (h : sValid a1 a2 a3 b1 b2 b3 c1 c2 c3 d1 d2 d3 = true) : stimesF a1 a2 a3 b1 b2 b3 c1 c2 c3 d1 d2 d3 1 0 1 = some ((a1, a2, a3), (b1, b2, b3), (c1, c2, c3), (d1, d2, d3)) := by
  obtain ⟨ha, hb, hc, hd⟩ := sValid_ok h
  obtain ⟨ka, rfl⟩ := realB_ok ha
  obtain ⟨kb, rfl⟩ := realB_ok hb
  obtain ⟨kc, rfl⟩ := realB_ok hc
  obtain ⟨kd, rfl⟩ := realB_ok hd
  unfold stimesF
  rw [h, show realB 1 0 1 = true by decide]
  exact quad_of (times_one ka) (times_one kb) (times_one kc) (times_one kd)
theorem squares_sign {a1 a2 a3 b1 b2 b3 c1 c2 c3 d1 d2 d3 p q r : Int} (h : squaresF a1 a2 a3 b1 b2 b3 c1 c2 c3 d1 d2 d3 = some (p, q, r)) : 0 ≤ p ∧ q = 0 := by
  obtain ⟨_, k, e, ev⟩ := squares_val h
  refine ⟨(rv_nonneg (okF_den k)).1 ?_, e⟩
  rw [ev]
  have := sq_nonneg (rv b1 b3)
  have := sq_nonneg (rv c1 c3)
  have := sq_nonneg (rv d1 d3)
  grind
theorem sadd_some {a1 a2 a3 b1 b2 b3 c1 c2 c3 d1 d2 d3 i1 i2 i3 j1 j2 j3 k1 k2 k3 l1 l2 l3 s1 s2 s3 t1 t2 t3 u1 u2 u3 v1 v2 v3 : Int} (h : saddF a1 a2 a3 b1 b2 b3 c1 c2 c3 d1 d2 d3 i1 i2 i3 j1 j2 j3 k1 k2 k3 l1 l2 l3 = some ((s1, s2, s3), (t1, t2, t3), (u1, u2, u3), (v1, v2, v3))) : sValid a1 a2 a3 b1 b2 b3 c1 c2 c3 d1 d2 d3 = true ∧ sValid i1 i2 i3 j1 j2 j3 k1 k2 k3 l1 l2 l3 = true ∧ sumF 1 a1 a2 a3 i1 i2 i3 = some (s1, s2, s3) ∧ sumF 1 b1 b2 b3 j1 j2 j3 = some (t1, t2, t3) ∧ sumF 1 c1 c2 c3 k1 k2 k3 = some (u1, u2, u3) ∧ sumF 1 d1 d2 d3 l1 l2 l3 = some (v1, v2, v3) := by
  unfold saddF at h
  split at h
  · rename_i hv
    rw [Bool.and_eq_true] at hv
    exact ⟨hv.1, hv.2, quad_some h⟩
  · cases h
theorem sadd_comm {a1 a2 a3 b1 b2 b3 c1 c2 c3 d1 d2 d3 i1 i2 i3 j1 j2 j3 k1 k2 k3 l1 l2 l3 s1 s2 s3 t1 t2 t3 u1 u2 u3 v1 v2 v3 : Int} (h : saddF a1 a2 a3 b1 b2 b3 c1 c2 c3 d1 d2 d3 i1 i2 i3 j1 j2 j3 k1 k2 k3 l1 l2 l3 = some ((s1, s2, s3), (t1, t2, t3), (u1, u2, u3), (v1, v2, v3))) : saddF i1 i2 i3 j1 j2 j3 k1 k2 k3 l1 l2 l3 a1 a2 a3 b1 b2 b3 c1 c2 c3 d1 d2 d3 = some ((s1, s2, s3), (t1, t2, t3), (u1, u2, u3), (v1, v2, v3)) := by
  obtain ⟨h1, h2, e1, e2, e3, e4⟩ := sadd_some h
  unfold saddF
  rw [h1, h2]
  exact quad_of (sum_comm e1) (sum_comm e2) (sum_comm e3) (sum_comm e4)
/-- The inequality of Cauchy and Schwarz, for three numbers each. -/
theorem cauchy3 {A B C D I J K L : Rat} (h : B * B + C * C + D * D ≤ A * A) (k : J * J + K * K + L * L ≤ I * I) (hA : 0 ≤ A) (hI : 0 ≤ I) : B * J + C * K + D * L ≤ A * I := by
  have hAI := Rat.mul_nonneg hA hI
  have s1 := sq_nonneg (B * K - C * J)
  have s2 := sq_nonneg (B * L - D * J)
  have s3 := sq_nonneg (C * L - D * K)
  have hS : 0 ≤ B * B + C * C + D * D := by
    have := sq_nonneg B
    have := sq_nonneg C
    have := sq_nonneg D
    grind
  have m1 : (B * B + C * C + D * D) * (J * J + K * K + L * L) ≤ (B * B + C * C + D * D) * (I * I) := Rat.mul_le_mul_of_nonneg_left k hS
  have m2 : (B * B + C * C + D * D) * (I * I) ≤ A * A * (I * I) := Rat.mul_le_mul_of_nonneg_right h (sq_nonneg I)
  have l : (B * J + C * K + D * L) * (B * J + C * K + D * L) ≤ (A * I) * (A * I) := by
    have e : (B * J + C * K + D * L) * (B * J + C * K + D * L) = (B * B + C * C + D * D) * (J * J + K * K + L * L) - (B * K - C * J) * (B * K - C * J) - (B * L - D * J) * (B * L - D * J) - (C * L - D * K) * (C * L - D * K) := by grind
    have e2 : (A * I) * (A * I) = A * A * (I * I) := by grind
    rw [e, e2]
    generalize (B * B + C * C + D * D) * (J * J + K * K + L * L) = X at *
    generalize (B * B + C * C + D * D) * (I * I) = Y at *
    generalize A * A * (I * I) = Z at *
    generalize (B * K - C * J) * (B * K - C * J) = P at *
    generalize (B * L - D * J) * (B * L - D * J) = Q at *
    generalize (C * L - D * K) * (C * L - D * K) = R at *
    grind
  generalize B * J + C * K + D * L = P at *
  generalize A * I = Z at *
  rcases Rat.le_total (a := P) (b := Z) with g | g
  · exact g
  · by_cases e : Z = P
    · rw [e]; exact Rat.le_refl
    · have p1 : 0 < P - Z := by grind
      have p2 : 0 < P + Z := by grind
      have p3 := Rat.mul_pos p1 p2
      grind
theorem sadd_light {a1 a2 a3 b1 b2 b3 c1 c2 c3 d1 d2 d3 i1 i2 i3 j1 j2 j3 k1 k2 k3 l1 l2 l3 s1 s2 s3 t1 t2 t3 u1 u2 u3 v1 v2 v3 : Int} {p q : (Int × Int × Int)} (h : saddF a1 a2 a3 b1 b2 b3 c1 c2 c3 d1 d2 d3 i1 i2 i3 j1 j2 j3 k1 k2 k3 l1 l2 l3 = some ((s1, s2, s3), (t1, t2, t3), (u1, u2, u3), (v1, v2, v3))) (ha : lightF a1 a2 a3 b1 b2 b3 c1 c2 c3 d1 d2 d3 = true) (he : lightF i1 i2 i3 j1 j2 j3 k1 k2 k3 l1 l2 l3 = true) (hs : squaresF s1 s2 s3 t1 t2 t3 u1 u2 u3 v1 v2 v3 = some p) (ht : timesF s1 s2 s3 s1 s2 s3 = some q) : lightF s1 s2 s3 t1 t2 t3 u1 u2 u3 v1 v2 v3 = true := by
  obtain ⟨_, _, e1, e2, e3, e4⟩ := sadd_some h
  obtain ⟨_, _, _, f1⟩ := sum_val e1
  obtain ⟨_, _, _, f2⟩ := sum_val e2
  obtain ⟨_, _, _, f3⟩ := sum_val e3
  obtain ⟨_, _, _, f4⟩ := sum_val e4
  obtain ⟨_, _, _, g1, g2, _⟩ := light_val ha
  obtain ⟨_, _, _, kk1, kk2, _⟩ := light_val he
  refine light_of hs ht ?_ ?_
  · rw [f1.1, f2.1, f3.1, f4.1]
    have c := cauchy3 g1 kk1 g2 kk2
    generalize rv a1 a3 = A at *
    generalize rv b1 b3 = B at *
    generalize rv c1 c3 = C at *
    generalize rv d1 d3 = D at *
    generalize rv i1 i3 = I at *
    generalize rv j1 j3 = J at *
    generalize rv k1 k3 = K at *
    generalize rv l1 l3 = L at *
    grind
  · rw [f1.1]
    grind
theorem stimes_some {a1 a2 a3 b1 b2 b3 c1 c2 c3 d1 d2 d3 q1 q2 q3 s1 s2 s3 t1 t2 t3 u1 u2 u3 v1 v2 v3 : Int} (h : stimesF a1 a2 a3 b1 b2 b3 c1 c2 c3 d1 d2 d3 q1 q2 q3 = some ((s1, s2, s3), (t1, t2, t3), (u1, u2, u3), (v1, v2, v3))) : sValid a1 a2 a3 b1 b2 b3 c1 c2 c3 d1 d2 d3 = true ∧ realB q1 q2 q3 = true ∧ timesF a1 a2 a3 q1 q2 q3 = some (s1, s2, s3) ∧ timesF b1 b2 b3 q1 q2 q3 = some (t1, t2, t3) ∧ timesF c1 c2 c3 q1 q2 q3 = some (u1, u2, u3) ∧ timesF d1 d2 d3 q1 q2 q3 = some (v1, v2, v3) := by
  unfold stimesF at h
  split at h
  · rename_i hv
    rw [Bool.and_eq_true] at hv
    exact ⟨hv.1, hv.2, quad_some h⟩
  · cases h
theorem stimes_light {a1 a2 a3 b1 b2 b3 c1 c2 c3 d1 d2 d3 q1 q2 q3 s1 s2 s3 t1 t2 t3 u1 u2 u3 v1 v2 v3 : Int} {p q : (Int × Int × Int)} (h : stimesF a1 a2 a3 b1 b2 b3 c1 c2 c3 d1 d2 d3 q1 q2 q3 = some ((s1, s2, s3), (t1, t2, t3), (u1, u2, u3), (v1, v2, v3))) (h0 : 0 ≤ q1) (ha : lightF a1 a2 a3 b1 b2 b3 c1 c2 c3 d1 d2 d3 = true) (hs : squaresF s1 s2 s3 t1 t2 t3 u1 u2 u3 v1 v2 v3 = some p) (ht : timesF s1 s2 s3 s1 s2 s3 = some q) : lightF s1 s2 s3 t1 t2 t3 u1 u2 u3 v1 v2 v3 = true := by
  obtain ⟨hv, hq, e1, e2, e3, e4⟩ := stimes_some h
  obtain ⟨ka, kb, kc, kd⟩ := sValid_ok hv
  obtain ⟨_, rfl⟩ := realB_ok ka
  obtain ⟨_, rfl⟩ := realB_ok kb
  obtain ⟨_, rfl⟩ := realB_ok kc
  obtain ⟨_, rfl⟩ := realB_ok kd
  obtain ⟨kq, rfl⟩ := realB_ok hq
  obtain ⟨_, _, f1⟩ := times_real e1
  obtain ⟨_, _, f2⟩ := times_real e2
  obtain ⟨_, _, f3⟩ := times_real e3
  obtain ⟨_, _, f4⟩ := times_real e4
  obtain ⟨_, _, _, g1, g2, _⟩ := light_val ha
  have hq0 := (rv_nonneg (okF_den kq)).2 h0
  refine light_of hs ht ?_ ?_
  · rw [f1, f2, f3, f4]
    have c := Rat.mul_le_mul_of_nonneg_right g1 (sq_nonneg (rv q1 q3))
    generalize rv a1 a3 = A at *
    generalize rv b1 b3 = B at *
    generalize rv c1 c3 = C at *
    generalize rv d1 d3 = D at *
    generalize rv q1 q3 = Q at *
    grind
  · rw [f1]
    exact Rat.mul_nonneg g2 hq0
theorem mirror4_zero {a1 a2 a3 b1 b2 b3 c1 c2 c3 d1 d2 d3 : Int} (h : sValid a1 a2 a3 b1 b2 b3 c1 c2 c3 d1 d2 d3 = true) : sumF 1 (-d1) d2 d3 d1 d2 d3 = some (0, 0, 1) := by
  obtain ⟨kd, rfl⟩ := realB_ok (sValid_ok h).2.2.2
  have k2 : okF (-d1) 0 d3 = true := by
    have := okF_neg2 d1 0 d3
    simp only [Int.neg_zero] at this
    rw [this]; exact kd
  refine sum_ofV k2 kd (by decide) ?_ ?_
  · rw [rv_zero, rv_neg]; grind
  · rw [rv_zero, rv_zero]; grind
end Go.Proofs.YtnfbopaafciiiabDoor
