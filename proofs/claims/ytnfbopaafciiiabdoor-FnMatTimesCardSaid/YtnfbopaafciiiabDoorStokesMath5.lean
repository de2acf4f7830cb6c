/-
  The laws of chapter 4 as plain mathematics: alike vectors, pure light and its vector.
-/
import Derived.Test.YtnfbopaafciiiabDoorStokesMath4
namespace Go.Proofs.YtnfbopaafciiiabDoor
open Go.ChangeShapes Go.WideShapes Go.ChangeAt Go.RowKit
set_option linter.unusedVariables false

theorem alike_val {x1 x2 x3 y1 y2 y3 a1 a2 a3 b1 b2 b3 : Int} (h : alikeF x1 x2 x3 y1 y2 y3 a1 a2 a3 b1 b2 b3 = true) : rv x1 x3 * rv b1 b3 - rv x2 x3 * rv b2 b3 = rv y1 y3 * rv a1 a3 - rv y2 y3 * rv a2 a3 ∧ rv x1 x3 * rv b2 b3 + rv x2 x3 * rv b1 b3 = rv y1 y3 * rv a2 a3 + rv y2 y3 * rv a1 a3 ∧ darkB x1 x2 x3 y1 y2 y3 = darkB a1 a2 a3 b1 b2 b3 := by
  cases h1 : timesF x1 x2 x3 b1 b2 b3 with
  | none => rw [alike_none1 h1] at h; cases h
  | some u =>
    cases h2 : timesF y1 y2 y3 a1 a2 a3 with
    | none => rw [alike_none2 h2] at h; cases h
    | some v =>
      obtain ⟨u1, u2, u3⟩ := u
      obtain ⟨v1, v2, v3⟩ := v
      rw [alike_some h1 h2] at h
      simp only [Bool.and_eq_true, beq_iff_eq] at h
      obtain ⟨⟨⟨rfl, rfl⟩, rfl⟩, hd⟩ := h
      obtain ⟨-, -, -, e1, e2⟩ := times_val h1
      obtain ⟨-, -, -, f1, f2⟩ := times_val h2
      exact ⟨by rw [← e1, f1], by rw [← e2, f2], hd⟩
theorem sq_sum0 {a b c d : Rat} : a * a + b * b + (c * c + d * d) = 0 ↔ a = 0 ∧ b = 0 ∧ c = 0 ∧ d = 0 := by
  constructor
  · intro h
    have h1 := sq_nonneg a
    have h2 := sq_nonneg b
    have h3 := sq_nonneg c
    have h4 := sq_nonneg d
    have z : ∀ x : Rat, x * x = 0 → x = 0 := fun x e => by
      rcases Rat.mul_eq_zero.1 e with k | k <;> exact k
    refine ⟨z _ ?_, z _ ?_, z _ ?_, z _ ?_⟩ <;> grind
  · rintro ⟨rfl, rfl, rfl, rfl⟩
    grind
theorem alike_sof {x1 x2 x3 y1 y2 y3 a1 a2 a3 b1 b2 b3 s1 s2 s3 t1 t2 t3 u1 u2 u3 v1 v2 v3 w1 w2 w3 z1 z2 z3 m1 m2 m3 n1 n2 n3 : Int} (h : alikeF x1 x2 x3 y1 y2 y3 a1 a2 a3 b1 b2 b3 = true) (hx : sofF x1 x2 x3 y1 y2 y3 = some ((s1, s2, s3), (t1, t2, t3), (u1, u2, u3), (v1, v2, v3))) (hy : sofF a1 a2 a3 b1 b2 b3 = some ((w1, w2, w3), (z1, z2, z3), (m1, m2, m3), (n1, n2, n3))) (ba : -10000 < s1 ∧ s1 < 10000 ∧ s3 < 10000 ∧ -10000 < t1 ∧ t1 < 10000 ∧ t3 < 10000 ∧ -10000 < u1 ∧ u1 < 10000 ∧ u3 < 10000 ∧ -10000 < v1 ∧ v1 < 10000 ∧ v3 < 10000) (be : -10000 < w1 ∧ w1 < 10000 ∧ w3 < 10000 ∧ -10000 < z1 ∧ z1 < 10000 ∧ z3 < 10000 ∧ -10000 < m1 ∧ m1 < 10000 ∧ m3 < 10000 ∧ -10000 < n1 ∧ n1 < 10000 ∧ n3 < 10000) : salikeF s1 s2 s3 t1 t2 t3 u1 u2 u3 v1 v2 v3 w1 w2 w3 z1 z2 z3 m1 m2 m3 n1 n2 n3 = true := by
  have v1' := sof_valid hx
  have v2' := sof_valid hy
  obtain ⟨⟨k1, rfl, k2, rfl, k3, rfl, k4, rfl⟩, okx, oky, e0, e1, e2, e3⟩ := sof_val hx
  obtain ⟨⟨l1, rfl, l2, rfl, l3, rfl, l4, rfl⟩, oka, okb, f0, f1, f2, f3⟩ := sof_val hy
  obtain ⟨g1, g2, g3⟩ := alike_val h
  have hsig : signI s1 = signI w1 := by
    refine signI_same (okF_den k1) (okF_den l1) ?_ ?_ ?_
    · rw [e0]
      have := sq_nonneg (rv x1 x3)
      have := sq_nonneg (rv x2 x3)
      have := sq_nonneg (rv y1 y3)
      have := sq_nonneg (rv y2 y3)
      grind
    · rw [f0]
      have := sq_nonneg (rv a1 a3)
      have := sq_nonneg (rv a2 a3)
      have := sq_nonneg (rv b1 b3)
      have := sq_nonneg (rv b2 b3)
      grind
    · rw [e0, f0, sq_sum0, sq_sum0, rv_is0 (okF_den okx), rv_is0 (okF_den okx), rv_is0 (okF_den oky), rv_is0 (okF_den oky), rv_is0 (okF_den oka), rv_is0 (okF_den oka), rv_is0 (okF_den okb), rv_is0 (okF_den okb), ← dark_iff, ← dark_iff, g3]
  refine salike_of v1' v2' hsig ba be ?_ ?_ ?_ ?_ ?_ ?_
  all_goals
    simp only [e0, e1, e2, e3, f0, f1, f2, f3]
    clear e0 e1 e2 e3 f0 f1 f2 f3
    generalize rv x1 x3 = X1 at *
    generalize rv x2 x3 = X2 at *
    generalize rv y1 y3 = Y1 at *
    generalize rv y2 y3 = Y2 at *
    generalize rv a1 a3 = A1 at *
    generalize rv a2 a3 = A2 at *
    generalize rv b1 b3 = B1 at *
    generalize rv b2 b3 = B2 at *
    grind
theorem alike_swap {x1 x2 x3 y1 y2 y3 a1 a2 a3 b1 b2 b3 : Int} (h : alikeF x1 x2 x3 y1 y2 y3 a1 a2 a3 b1 b2 b3 = true) : alikeF a1 a2 a3 b1 b2 b3 x1 x2 x3 y1 y2 y3 = true := by
  cases h1 : timesF x1 x2 x3 b1 b2 b3 with
  | none => rw [alike_none1 h1] at h; cases h
  | some u =>
    cases h2 : timesF y1 y2 y3 a1 a2 a3 with
    | none => rw [alike_none2 h2] at h; cases h
    | some v =>
      obtain ⟨u1, u2, u3⟩ := u
      obtain ⟨v1, v2, v3⟩ := v
      rw [alike_some h1 h2] at h
      simp only [Bool.and_eq_true, beq_iff_eq] at h
      obtain ⟨⟨⟨rfl, rfl⟩, rfl⟩, hd⟩ := h
      rw [alike_some (times_comm h2) (times_comm h1), hd]
      simp
theorem svec_some {a1 a2 a3 b1 b2 b3 c1 c2 c3 d1 d2 d3 x1 x2 x3 y1 y2 y3 : Int} (h : svecF a1 a2 a3 b1 b2 b3 c1 c2 c3 d1 d2 d3 = some ((x1, x2, x3), (y1, y2, y3))) : pureF a1 a2 a3 b1 b2 b3 c1 c2 c3 d1 d2 d3 = true ∧ ¬ a1 = 0 ∧ ∃ g1 g2 g3 t1 t2 t3, addF a1 a2 a3 b1 b2 b3 = some (g1, g2, g3) ∧ makeF (2 * a1) 0 a3 = some (t1, t2, t3) ∧ ∃ r1 r2 r3, timesF d1 d2 d3 0 (-1) 1 = some (r1, r2, r3) ∧
    ((g1 = 0 ∧ (x1, x2, x3) = (0, 0, 1) ∧ (y1, y2, y3) = (t1, t2, t3)) ∨ (¬ g1 = 0 ∧ (x1, x2, x3) = (g1, g2, g3) ∧ addF c1 c2 c3 r1 r2 r3 = some (y1, y2, y3))) := by
  unfold svecF at h
  split at h
  · rename_i hc
    rw [Bool.and_eq_true] at hc
    refine ⟨hc.1, by simpa using hc.2, ?_⟩
    cases hg : addF a1 a2 a3 b1 b2 b3 with
    | none => rw [hg] at h; cases h
    | some g =>
      cases ht : makeF (2 * a1) 0 a3 with
      | none => rw [hg, ht] at h; cases h
      | some u =>
        cases hr : timesF d1 d2 d3 0 (-1) 1 with
        | none => rw [hg, ht, hr] at h; cases h
        | some r =>
          rw [hg, ht, hr] at h
          obtain ⟨g1, g2, g3⟩ := g
          obtain ⟨t1, t2, t3⟩ := u
          obtain ⟨r1, r2, r3⟩ := r
          refine ⟨g1, g2, g3, t1, t2, t3, rfl, rfl, r1, r2, r3, rfl, ?_⟩
          simp only [Option.bind_some] at h
          split at h
          · rename_i h0
            obtain ⟨⟩ := h
            exact Or.inl ⟨h0, rfl, rfl⟩
          · rename_i h0
            cases hy : addF c1 c2 c3 r1 r2 r3 with
            | none => rw [hy] at h; cases h
            | some y =>
              rw [hy] at h
              obtain ⟨⟩ := h
              exact Or.inr ⟨h0, rfl, rfl⟩
  · cases h
/-- The vector's values: X real, greater than 0 or 0. -/
theorem svec_val {a1 a2 a3 b1 b2 b3 c1 c2 c3 d1 d2 d3 x1 x2 x3 y1 y2 y3 : Int} (h : svecF a1 a2 a3 b1 b2 b3 c1 c2 c3 d1 d2 d3 = some ((x1, x2, x3), (y1, y2, y3))) : pureF a1 a2 a3 b1 b2 b3 c1 c2 c3 d1 d2 d3 = true ∧ ¬ a1 = 0 ∧ okF x1 x2 x3 = true ∧ okF y1 y2 y3 = true ∧
    ((x1 = 0 ∧ x2 = 0 ∧ rv a1 a3 + rv b1 b3 = 0 ∧ rv y1 y3 = 2 * rv a1 a3 ∧ rv y2 y3 = 0) ∨ (¬ x1 = 0 ∧ rv x1 x3 = rv a1 a3 + rv b1 b3 ∧ rv x2 x3 = 0 ∧ rv y1 y3 = rv c1 c3 ∧ rv y2 y3 = -(rv d1 d3))) := by
  obtain ⟨hp, h0, g1, g2, g3, t1, t2, t3, hg, ht, r1, r2, r3, hr, hh⟩ := svec_some h
  obtain ⟨hv, -⟩ := pure_val hp
  obtain ⟨ga, gb, gc, gd⟩ := sValid_ok hv
  obtain ⟨ka, rfl⟩ := realB_ok ga
  obtain ⟨_, rfl⟩ := realB_ok gb
  obtain ⟨_, rfl⟩ := realB_ok gc
  obtain ⟨_, rfl⟩ := realB_ok gd
  obtain ⟨kg, rfl, eg⟩ := sum_real hg
  obtain ⟨kt, rfl, et⟩ := make_val (okF_den ka) ht
  obtain ⟨-, -, kr, er1, er2⟩ := times_val hr
  have o : rv (-1) 1 = -1 := by rw [rv_one]; exact_mod_cast rfl
  rw [rv_zero, rv_zero, o] at er1
  rw [rv_zero, rv_zero, o] at er2
  refine ⟨hp, h0, ?_⟩
  rcases hh with ⟨z, e1, e2⟩ | ⟨z, e1, e2⟩
  · obtain ⟨⟩ := e1
    obtain ⟨⟩ := e2
    subst z
    rw [rv_zero] at eg
    exact ⟨by decide, kt, Or.inl ⟨rfl, rfl, eg.symm, et, rv_zero _⟩⟩
  · obtain ⟨⟩ := e1
    obtain ⟨-, -, ky, ey1, ey2⟩ := sum_val e2
    rw [rv_zero] at ey2
    refine ⟨kg, ky, Or.inr ⟨z, eg, rv_zero _, by rw [ey1, er1]; grind, by rw [ey2, er2]; grind⟩⟩
theorem svec_ok {a1 a2 a3 b1 b2 b3 c1 c2 c3 d1 d2 d3 x1 x2 x3 y1 y2 y3 : Int} (h : svecF a1 a2 a3 b1 b2 b3 c1 c2 c3 d1 d2 d3 = some ((x1, x2, x3), (y1, y2, y3))) : okF x1 x2 x3 = true ∧ okF y1 y2 y3 = true := ⟨(svec_val h).2.2.1, (svec_val h).2.2.2.1⟩
theorem svec_lit {a1 a2 a3 b1 b2 b3 c1 c2 c3 d1 d2 d3 x1 x2 x3 y1 y2 y3 : Int} (h : svecF a1 a2 a3 b1 b2 b3 c1 c2 c3 d1 d2 d3 = some ((x1, x2, x3), (y1, y2, y3))) : ¬ (x1 = 0 ∧ x2 = 0 ∧ y1 = 0 ∧ y2 = 0) := by
  obtain ⟨hp, h0, kx, ky, hh⟩ := svec_val h
  have ka := (realB_ok (sValid_ok (pure_val hp).1).1).1
  rintro ⟨rfl, rfl, rfl, rfl⟩
  rcases hh with ⟨_, _, _, e, _⟩ | ⟨e, _⟩
  · rw [rv_zero] at e
    have : rv a1 a3 = 0 := by grind
    exact h0 ((rv_is0 (okF_den ka)).1 this)
  · exact e rfl
theorem pure_sof {a1 a2 a3 b1 b2 b3 c1 c2 c3 d1 d2 d3 x1 x2 x3 y1 y2 y3 s1 s2 s3 t1 t2 t3 u1 u2 u3 v1 v2 v3 : Int} (h : svecF a1 a2 a3 b1 b2 b3 c1 c2 c3 d1 d2 d3 = some ((x1, x2, x3), (y1, y2, y3))) (hx : sofF x1 x2 x3 y1 y2 y3 = some ((s1, s2, s3), (t1, t2, t3), (u1, u2, u3), (v1, v2, v3))) (ba : -10000 < a1 ∧ a1 < 10000 ∧ a3 < 10000 ∧ -10000 < b1 ∧ b1 < 10000 ∧ b3 < 10000 ∧ -10000 < c1 ∧ c1 < 10000 ∧ c3 < 10000 ∧ -10000 < d1 ∧ d1 < 10000 ∧ d3 < 10000) (be : -10000 < s1 ∧ s1 < 10000 ∧ s3 < 10000 ∧ -10000 < t1 ∧ t1 < 10000 ∧ t3 < 10000 ∧ -10000 < u1 ∧ u1 < 10000 ∧ u3 < 10000 ∧ -10000 < v1 ∧ v1 < 10000 ∧ v3 < 10000) : salikeF a1 a2 a3 b1 b2 b3 c1 c2 c3 d1 d2 d3 s1 s2 s3 t1 t2 t3 u1 u2 u3 v1 v2 v3 = true := by
  obtain ⟨hp, h0, kx, ky, hh⟩ := svec_val h
  obtain ⟨hv, -, -, eq, n0⟩ := pure_val hp
  obtain ⟨ga, gb, gc, gd⟩ := sValid_ok hv
  obtain ⟨ka, rfl⟩ := realB_ok ga
  obtain ⟨_, rfl⟩ := realB_ok gb
  obtain ⟨_, rfl⟩ := realB_ok gc
  obtain ⟨_, rfl⟩ := realB_ok gd
  have v1' := sof_valid hx
  obtain ⟨⟨k1, rfl, k2, rfl, k3, rfl, k4, rfl⟩, -, -, e0, e1, e2, e3⟩ := sof_val hx
  have nz : ¬ rv a1 a3 = 0 := fun z => h0 ((rv_is0 (okF_den ka)).1 z)
  have sg0 : 0 ≤ rv s1 s3 := by
    rw [e0]
    have := sq_nonneg (rv x1 x3)
    have := sq_nonneg (rv x2 x3)
    have := sq_nonneg (rv y1 y3)
    have := sq_nonneg (rv y2 y3)
    grind
  have nz2 : ¬ rv s1 s3 = 0 := fun z => by
    rw [e0, sq_sum0, rv_is0 (okF_den kx), rv_is0 (okF_den kx), rv_is0 (okF_den ky), rv_is0 (okF_den ky)] at z
    exact svec_lit h z
  have hsig : signI a1 = signI s1 := signI_same (okF_den ka) (okF_den k1) n0 sg0 ⟨fun z => absurd z nz, fun z => absurd z nz2⟩
  refine salike_of hv v1' hsig ba be ?_ ?_ ?_ ?_ ?_ ?_
  all_goals
    simp only [e0, e1, e2, e3]
    clear e0 e1 e2 e3 sg0 nz2 hsig
    rcases hh with ⟨rfl, rfl, g1, g2, g3⟩ | ⟨_, g1, g2, g3, g4⟩
    · rw [rv_zero, g2, g3]
      generalize rv a1 a3 = A at *
      generalize rv b1 b3 = B at *
      generalize rv c1 c3 = C at *
      generalize rv d1 d3 = D at *
      have hB : B = -A := by grind
      have cd : C * C + D * D = 0 := by grind
      have hC : C = 0 := by
        have h1 := sq_nonneg C
        have h2 := sq_nonneg D
        rcases Rat.mul_eq_zero.1 (show C * C = 0 by grind) with k | k <;> exact k
      have hD : D = 0 := by
        have h1 := sq_nonneg C
        have h2 := sq_nonneg D
        rcases Rat.mul_eq_zero.1 (show D * D = 0 by grind) with k | k <;> exact k
      subst hB hC hD
      grind
    · rw [g1, g2, g3, g4]
      generalize rv a1 a3 = A at *
      generalize rv b1 b3 = B at *
      generalize rv c1 c3 = C at *
      generalize rv d1 d3 = D at *
      grind
end Go.Proofs.YtnfbopaafciiiabDoor
