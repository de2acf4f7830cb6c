/-
  The laws of chapter 4 as plain mathematics: four numbers of vectors.
-/
import Derived.Test.YtnfbopaafciiiabDoorStokesMath2
import Derived.Test.YtnfbopaafciiiabDoorBSpecV
namespace Go.Proofs.YtnfbopaafciiiabDoor
open Go.ChangeShapes Go.WideShapes Go.ChangeAt Go.RowKit
set_option linter.unusedVariables false

theorem squares_ok {a1 a2 a3 b1 b2 b3 c1 c2 c3 d1 d2 d3 p q r : Int} (h : squaresF a1 a2 a3 b1 b2 b3 c1 c2 c3 d1 d2 d3 = some (p, q, r)) : okF p q r = true := (squares_val h).2.1
theorem power_turn (x y z : Int) : powerF (-y) x z = powerF x y z := by
  rw [power_eq, power_eq, okF_swap, okF_neg1, show -y * -y + x * x = x * x + y * y by grind]
theorem times_i {x y z p q r : Int} (h : timesF x y z 0 1 1 = some (p, q, r)) : okF x y z = true ∧ p = -y ∧ q = x ∧ r = z := by
  obtain ⟨k, _, k2, e1, e2⟩ := times_val h
  have o : ((1 : Int) : Rat) = 1 := by exact_mod_cast rfl
  rw [rv_zero, rv_one, o] at e1 e2
  have k3 : okF (-y) x z = true := by rw [okF_swap, okF_neg1]; exact k
  have := uniqV k2 k3 (by rw [e1, rv_neg]; grind) (by rw [e2]; grind)
  obtain ⟨⟩ := this
  exact ⟨k, rfl, rfl, rfl⟩
theorem cross_turn {x1 x2 x3 y1 y2 y3 : Int} (hy : okF y1 y2 y3 = true) (hx : okF x1 x2 x3 = true) : crossO (-x2) x1 x3 (-y2) y1 y3 = crossO x1 x2 x3 y1 y2 y3 := by
  have kx : okF (-x2) x1 x3 = true := by rw [okF_swap, okF_neg1]; exact hx
  have ky : okF (-y2) y1 y3 = true := by rw [okF_swap, okF_neg1]; exact hy
  have ky2 : okF (-y2) (-y1) y3 = true := by rw [okF_neg1]; exact ky
  have ky3 : okF y1 (-y2) y3 = true := by rw [okF_neg1]; exact hy
  unfold crossO mirrorF
  rw [if_pos hy, if_pos ky]
  simp only [Option.bind_some]
  unfold timesF
  rw [kx, hx, ky2, ky3, show -x2 * -y2 - x1 * -y1 = x1 * y1 - x2 * -y2 by grind, show -x2 * -y1 + x1 * -y2 = x1 * -y2 + x2 * y1 by grind]
theorem sof_turn {x1 x2 x3 y1 y2 y3 p1 p2 p3 q1 q2 q3 : Int} (h : jtimesF x1 x2 x3 y1 y2 y3 0 1 1 = some ((p1, p2, p3), (q1, q2, q3))) : sofF p1 p2 p3 q1 q2 q3 = sofF x1 x2 x3 y1 y2 y3 := by
  obtain ⟨h1, h2⟩ := pair_some h
  obtain ⟨kx, rfl, rfl, rfl⟩ := times_i h1
  obtain ⟨ky, rfl, rfl, rfl⟩ := times_i h2
  unfold sofF jpowF
  rw [power_turn, power_turn, cross_turn ky kx]
theorem reO_some {o : Option (Int × Int × Int)} {p q r : Int} (h : reO o = some (p, q, r)) : ∃ c1 c2 c3, o = some (c1, c2, c3) ∧ makeF (2 * c1) 0 c3 = some (p, q, r) := by
  cases o with
  | none => cases h
  | some c =>
    obtain ⟨c1, c2, c3⟩ := c
    exact ⟨c1, c2, c3, rfl, h⟩
theorem imO_some {o : Option (Int × Int × Int)} {p q r : Int} (h : imO o = some (p, q, r)) : ∃ c1 c2 c3, o = some (c1, c2, c3) ∧ makeF (2 * c2) 0 c3 = some (p, q, r) := by
  cases o with
  | none => cases h
  | some c =>
    obtain ⟨c1, c2, c3⟩ := c
    exact ⟨c1, c2, c3, rfl, h⟩
theorem crossO_some {x1 x2 x3 y1 y2 y3 c1 c2 c3 : Int} (h : crossO x1 x2 x3 y1 y2 y3 = some (c1, c2, c3)) : okF y1 y2 y3 = true ∧ timesF x1 x2 x3 y1 (-y2) y3 = some (c1, c2, c3) := by
  unfold crossO mirrorF at h
  split at h
  · rename_i hk
    exact ⟨hk, h⟩
  · cases h
theorem sof_some {x1 x2 x3 y1 y2 y3 s1 s2 s3 t1 t2 t3 u1 u2 u3 v1 v2 v3 : Int} (h : sofF x1 x2 x3 y1 y2 y3 = some ((s1, s2, s3), (t1, t2, t3), (u1, u2, u3), (v1, v2, v3))) : jpowF x1 x2 x3 y1 y2 y3 = some (s1, s2, s3) ∧ lessO (powerF x1 x2 x3) (powerF y1 y2 y3) = some (t1, t2, t3) ∧ reO (crossO x1 x2 x3 y1 y2 y3) = some (u1, u2, u3) ∧ imO (crossO x1 x2 x3 y1 y2 y3) = some (v1, v2, v3) := quad_some h
theorem sof_val {x1 x2 x3 y1 y2 y3 s1 s2 s3 t1 t2 t3 u1 u2 u3 v1 v2 v3 : Int} (h : sofF x1 x2 x3 y1 y2 y3 = some ((s1, s2, s3), (t1, t2, t3), (u1, u2, u3), (v1, v2, v3))) :
    (okF s1 s2 s3 = true ∧ s2 = 0 ∧ okF t1 t2 t3 = true ∧ t2 = 0 ∧ okF u1 u2 u3 = true ∧ u2 = 0 ∧ okF v1 v2 v3 = true ∧ v2 = 0) ∧ okF x1 x2 x3 = true ∧ okF y1 y2 y3 = true ∧
    rv s1 s3 = rv x1 x3 * rv x1 x3 + rv x2 x3 * rv x2 x3 + (rv y1 y3 * rv y1 y3 + rv y2 y3 * rv y2 y3) ∧ rv t1 t3 = rv x1 x3 * rv x1 x3 + rv x2 x3 * rv x2 x3 - (rv y1 y3 * rv y1 y3 + rv y2 y3 * rv y2 y3) ∧
    rv u1 u3 = 2 * (rv x1 x3 * rv y1 y3 + rv x2 x3 * rv y2 y3) ∧ rv v1 v3 = 2 * (rv x2 x3 * rv y1 y3 - rv x1 x3 * rv y2 y3) := by
  obtain ⟨h1, h2, h3, h4⟩ := sof_some h
  obtain ⟨kx, ky, k1, e1, -, rfl⟩ := jpow_val h1
  obtain ⟨a1, a2, a3, b1, b2, b3, g1, g2, g3⟩ := lessO_some h2
  obtain ⟨-, -, p1, -, rfl⟩ := power_val g1
  obtain ⟨-, -, p2, -, rfl⟩ := power_val g2
  obtain ⟨_, _, k2, e2, e2'⟩ := less_val g3
  rw [rv_zero, rv_zero] at e2'
  have t0 : t2 = 0 := real0 k2 (by rw [e2']; grind)
  obtain ⟨c1, c2, c3, f1, f2⟩ := reO_some h3
  obtain ⟨c1', c2', c3', f1', f2'⟩ := imO_some h4
  rw [f1] at f1'
  obtain ⟨⟩ := f1'
  obtain ⟨_, hc⟩ := crossO_some f1
  obtain ⟨_, _, kc, ec1, ec2⟩ := times_val hc
  rw [rv_neg] at ec1 ec2
  obtain ⟨k3, u0, e3⟩ := make_val (okF_den kc) f2
  obtain ⟨k4, v0, e4⟩ := make_val (okF_den kc) f2'
  refine ⟨⟨k1, rfl, k2, t0, k3, u0, k4, v0⟩, kx, ky, e1, by rw [e2, p1, p2], by rw [e3, ec1]; grind, by rw [e4, ec2]; grind⟩
theorem sof_ok {x1 x2 x3 y1 y2 y3 s1 s2 s3 t1 t2 t3 u1 u2 u3 v1 v2 v3 : Int} (h : sofF x1 x2 x3 y1 y2 y3 = some ((s1, s2, s3), (t1, t2, t3), (u1, u2, u3), (v1, v2, v3))) : okF s1 s2 s3 = true ∧ okF t1 t2 t3 = true ∧ okF u1 u2 u3 = true ∧ okF v1 v2 v3 = true := by
  obtain ⟨⟨k1, -, k2, -, k3, -, k4, -⟩, -⟩ := sof_val h
  exact ⟨k1, k2, k3, k4⟩
theorem sof_valid {x1 x2 x3 y1 y2 y3 s1 s2 s3 t1 t2 t3 u1 u2 u3 v1 v2 v3 : Int} (h : sofF x1 x2 x3 y1 y2 y3 = some ((s1, s2, s3), (t1, t2, t3), (u1, u2, u3), (v1, v2, v3))) : sValid s1 s2 s3 t1 t2 t3 u1 u2 u3 v1 v2 v3 = true := by
  obtain ⟨⟨k1, rfl, k2, rfl, k3, rfl, k4, rfl⟩, -⟩ := sof_val h
  unfold sValid realB
  rw [k1, k2, k3, k4]
  rfl
theorem sof_pure {x1 x2 x3 y1 y2 y3 s1 s2 s3 t1 t2 t3 u1 u2 u3 v1 v2 v3 : Int} {p q : (Int × Int × Int)} (h : sofF x1 x2 x3 y1 y2 y3 = some ((s1, s2, s3), (t1, t2, t3), (u1, u2, u3), (v1, v2, v3))) (hs : squaresF s1 s2 s3 t1 t2 t3 u1 u2 u3 v1 v2 v3 = some p) (ht : timesF s1 s2 s3 s1 s2 s3 = some q) : pureF s1 s2 s3 t1 t2 t3 u1 u2 u3 v1 v2 v3 = true := by
  obtain ⟨-, -, -, e1, e2, e3, e4⟩ := sof_val h
  refine pure_of hs ht ?_ ?_
  · rw [e1, e2, e3, e4]; grind
  · rw [e1]
    have := sq_nonneg (rv x1 x3)
    have := sq_nonneg (rv x2 x3)
    have := sq_nonneg (rv y1 y3)
    have := sq_nonneg (rv y2 y3)
    generalize rv x1 x3 * rv x1 x3 = a at *
    generalize rv x2 x3 * rv x2 x3 = b at *
    generalize rv y1 y3 * rv y1 y3 = c at *
    generalize rv y2 y3 * rv y2 y3 = d at *
    grind
theorem sof_power {x1 x2 x3 y1 y2 y3 s1 s2 s3 t1 t2 t3 u1 u2 u3 v1 v2 v3 : Int} (h : sofF x1 x2 x3 y1 y2 y3 = some ((s1, s2, s3), (t1, t2, t3), (u1, u2, u3), (v1, v2, v3))) : jpowF x1 x2 x3 y1 y2 y3 = some (s1, s2, s3) := (sof_some h).1
theorem make_neg {n d p q r : Int} (hd : 1 ≤ d) (h : makeF (2 * n) 0 d = some (p, q, r)) : makeF (2 * -n) 0 d = some (-p, q, r) := by
  have hq := (make_val hd h).2.1
  subst hq
  unfold makeF at h ⊢
  split at h
  · rename_i hb
    have hb2 : (inB d 1 1000000000000000000 && inB (2 * -n) (-1000000000000000000) 1000000000000000000 && inB 0 (-1000000000000000000) 1000000000000000000) = true := by
      unfold inB at hb ⊢
      simp only [Bool.and_eq_true, decide_eq_true_eq] at hb ⊢
      omega
    rw [if_pos hb2]
    obtain ⟨k, e1, e2⟩ := (low_iff hd).1 h
    refine (low_iff hd).2 ⟨?_, ?_, e2⟩
    · have := okF_neg2 p 0 r
      simp only [Int.neg_zero] at this
      rw [this]; exact k
    · rw [Int.neg_mul, e1]; grind
  · cases h
theorem sof_mirror {x1 x2 x3 y1 y2 y3 s1 s2 s3 t1 t2 t3 u1 u2 u3 v1 v2 v3 : Int} (h : sofF x1 x2 x3 y1 y2 y3 = some ((s1, s2, s3), (t1, t2, t3), (u1, u2, u3), (v1, v2, v3))) : sofF x1 (-x2) x3 y1 (-y2) y3 = some ((s1, s2, s3), (t1, t2, t3), (u1, u2, u3), (-v1, v2, v3)) := by
  obtain ⟨h1, h2, h3, h4⟩ := sof_some h
  obtain ⟨c1, c2, c3, f1, f2⟩ := reO_some h3
  obtain ⟨c1', c2', c3', f1', f2'⟩ := imO_some h4
  rw [f1] at f1'
  obtain ⟨⟩ := f1'
  obtain ⟨ky, hc⟩ := crossO_some f1
  have kc := (times_val hc).2.2.1
  have hcr : crossO x1 (-x2) x3 y1 (-y2) y3 = some (c1, -c2, c3) := by
    unfold crossO mirrorF
    rw [if_pos (by rw [okF_neg1]; exact ky), Int.neg_neg]
    exact times_comm (times_swap hc ky)
  unfold sofF
  refine quad_of ?_ ?_ ?_ ?_
  · unfold jpowF at h1 ⊢
    rw [power_mirror, power_mirror]; exact h1
  · rw [power_mirror, power_mirror]; exact h2
  · rw [hcr]; exact f2
  · rw [hcr]; exact make_neg (okF_den kc) f2'
theorem jmirror_some {x1 x2 x3 y1 y2 y3 : Int} {o : (Int × Int × Int) × (Int × Int × Int)} (h : jmirrorF x1 x2 x3 y1 y2 y3 = some o) : okF x1 x2 x3 = true ∧ okF y1 y2 y3 = true ∧ o = ((x1, -x2, x3), (y1, -y2, y3)) := by
  unfold jmirrorF at h
  obtain ⟨u, v⟩ := o
  obtain ⟨h1, h2⟩ := pair_some h
  unfold mirrorF at h1 h2
  split at h1
  · split at h2
    · rename_i k1 k2
      cases h1
      cases h2
      exact ⟨k1, k2, rfl⟩
    · cases h2
  · cases h1
theorem jmirror_of {x1 x2 x3 y1 y2 y3 : Int} (h : okF x1 x2 x3 = true) (k : okF y1 y2 y3 = true) : jmirrorF x1 x2 x3 y1 y2 y3 = some ((x1, -x2, x3), (y1, -y2, y3)) := by
  unfold jmirrorF
  refine pair_of ?_ ?_ <;> unfold mirrorF <;> rw [if_pos (by assumption)]
theorem jmirror_back {x1 x2 x3 y1 y2 y3 : Int} (h : okF x1 x2 x3 = true) (k : okF y1 y2 y3 = true) : jmirrorF x1 (-x2) x3 y1 (-y2) y3 = some ((x1, x2, x3), (y1, y2, y3)) := by
  have := jmirror_of ((okF_neg1 x1 x2 x3).trans h) ((okF_neg1 y1 y2 y3).trans k)
  rw [Int.neg_neg, Int.neg_neg] at this
  exact this
end Go.Proofs.YtnfbopaafciiiabDoor
