/-
  The laws of chapter 4 as plain mathematics: alike light.
-/
import Derived.Test.YtnfbopaafciiiabDoorStokesMath3
namespace Go.Proofs.YtnfbopaafciiiabDoor
open Go.ChangeShapes Go.WideShapes Go.ChangeAt Go.RowKit
set_option linter.unusedVariables false

theorem timesF_comm (x y z a b c : Int) : timesF x y z a b c = timesF a b c x y z := by
  unfold timesF
  rw [Bool.and_comm, Int.mul_comm x a, Int.mul_comm y b, Int.mul_comm x b, Int.mul_comm y a, Int.mul_comm z c, Int.add_comm]
theorem prodB_swap {u1 u2 u3 v1 v2 v3 s1 s2 s3 t1 t2 t3 : Int} (h : prodB u1 u2 u3 v1 v2 v3 s1 s2 s3 t1 t2 t3 = true) : prodB s1 s2 s3 t1 t2 t3 u1 u2 u3 v1 v2 v3 = true := by
  unfold prodB at h ⊢
  rw [Bool.and_eq_true, beq_iff_eq] at h ⊢
  rw [timesF_comm s1, timesF_comm t1, ← h.2]
  exact ⟨h.1, rfl⟩
theorem prodB_val {u1 u3 v1 v3 s1 s3 t1 t3 : Int} (h : prodB u1 0 u3 v1 0 v3 s1 0 s3 t1 0 t3 = true) : rv u1 u3 * rv t1 t3 = rv v1 v3 * rv s1 s3 := by
  unfold prodB at h
  rw [Bool.and_eq_true, beq_iff_eq] at h
  obtain ⟨⟨p, q, r⟩, hp⟩ := Option.isSome_iff_exists.1 h.1
  have hq := h.2.symm.trans hp
  rw [← (times_real hp).2.2, (times_real hq).2.2]
theorem prod_told {x z a c : Int} (h1 : okF x 0 z = true) (h2 : okF a 0 c = true) (b1 : -10000 < x ∧ x < 10000 ∧ z < 10000) (b2 : -10000 < a ∧ a < 10000 ∧ c < 10000) : ∃ p r, timesF x 0 z a 0 c = some (p, 0, r) ∧ okF p 0 r = true ∧ rv p r = rv x z * rv a c := by
  have z1 := okF_den h1
  have c1 := okF_den h2
  have m1 : z * c ≤ 9999 * 9999 := Int.mul_le_mul (by omega) (by omega) (by omega) (by omega)
  have m2 : (x * a).natAbs ≤ 9999 * 9999 := by
    rw [Int.natAbs_mul]
    exact Nat.mul_le_mul (by omega) (by omega)
  obtain ⟨p, q, r, e⟩ := low_told (x := x * a - 0 * 0) (y := x * 0 + 0 * a) (mul_pos1 z1 c1) (by omega) (by omega) (by omega)
  have ht : timesF x 0 z a 0 c = some (p, q, r) := by
    unfold timesF
    rw [h1, h2]
    exact e
  obtain ⟨k, rfl, ev⟩ := times_real ht
  exact ⟨p, r, ht, k, ev⟩
theorem prod_same {u1 u3 v1 v3 s1 s3 t1 t3 : Int} (hu : okF u1 0 u3 = true) (hv : okF v1 0 v3 = true) (hs : okF s1 0 s3 = true) (ht : okF t1 0 t3 = true)
    (bu : -10000 < u1 ∧ u1 < 10000 ∧ u3 < 10000) (bv : -10000 < v1 ∧ v1 < 10000 ∧ v3 < 10000) (bs : -10000 < s1 ∧ s1 < 10000 ∧ s3 < 10000) (bt : -10000 < t1 ∧ t1 < 10000 ∧ t3 < 10000)
    (e : rv u1 u3 * rv t1 t3 = rv v1 v3 * rv s1 s3) : prodB u1 0 u3 v1 0 v3 s1 0 s3 t1 0 t3 = true := by
  obtain ⟨p, r, h1, k1, e1⟩ := prod_told hu ht bu bt
  obtain ⟨p', r', h2, k2, e2⟩ := prod_told hv hs bv bs
  have := uniqV k1 k2 (by rw [e1, e2, e]) (by rw [rv_zero, rv_zero])
  unfold prodB
  rw [h1, h2, this]
  simp
theorem signI_same {x z a c : Int} (hz : 1 ≤ z) (hc : 1 ≤ c) (h1 : 0 ≤ rv x z) (h2 : 0 ≤ rv a c) (h : rv x z = 0 ↔ rv a c = 0) : signI x = signI a := by
  have k1 := (rv_nonneg hz).1 h1
  have k2 := (rv_nonneg hc).1 h2
  rw [rv_is0 hz, rv_is0 hc] at h
  unfold signI
  split
  · omega
  · split
    · omega
    · rw [if_neg (by omega), if_neg (by omega)]
/-- Small four numbers in the same proportions are alike. -/
theorem salike_of {a1 a3 b1 b3 c1 c3 d1 d3 i1 i3 j1 j3 k1 k3 l1 l3 : Int} (hv : sValid a1 0 a3 b1 0 b3 c1 0 c3 d1 0 d3 = true) (he : sValid i1 0 i3 j1 0 j3 k1 0 k3 l1 0 l3 = true) (hs : signI a1 = signI i1) (ba : -10000 < a1 ∧ a1 < 10000 ∧ a3 < 10000 ∧ -10000 < b1 ∧ b1 < 10000 ∧ b3 < 10000 ∧ -10000 < c1 ∧ c1 < 10000 ∧ c3 < 10000 ∧ -10000 < d1 ∧ d1 < 10000 ∧ d3 < 10000) (be : -10000 < i1 ∧ i1 < 10000 ∧ i3 < 10000 ∧ -10000 < j1 ∧ j1 < 10000 ∧ j3 < 10000 ∧ -10000 < k1 ∧ k1 < 10000 ∧ k3 < 10000 ∧ -10000 < l1 ∧ l1 < 10000 ∧ l3 < 10000)
    (e10 : rv b1 b3 * rv i1 i3 = rv a1 a3 * rv j1 j3) (e20 : rv c1 c3 * rv i1 i3 = rv a1 a3 * rv k1 k3) (e21 : rv c1 c3 * rv j1 j3 = rv b1 b3 * rv k1 k3) (e30 : rv d1 d3 * rv i1 i3 = rv a1 a3 * rv l1 l3) (e31 : rv d1 d3 * rv j1 j3 = rv b1 b3 * rv l1 l3) (e32 : rv d1 d3 * rv k1 k3 = rv c1 c3 * rv l1 l3) : salikeF a1 0 a3 b1 0 b3 c1 0 c3 d1 0 d3 i1 0 i3 j1 0 j3 k1 0 k3 l1 0 l3 = true := by
  obtain ⟨ga, gb, gc, gd⟩ := sValid_ok hv
  obtain ⟨gi, gj, gk, gl⟩ := sValid_ok he
  have ka := (realB_ok ga).1
  have kb := (realB_ok gb).1
  have kc := (realB_ok gc).1
  have kd := (realB_ok gd).1
  have ki := (realB_ok gi).1
  have kj := (realB_ok gj).1
  have kk := (realB_ok gk).1
  have kl := (realB_ok gl).1
  unfold salikeF
  rw [hv, he, hs]
  simp only [BEq.rfl, Bool.true_and, Bool.and_eq_true]
  refine ⟨⟨⟨⟨⟨?_, ?_⟩, ?_⟩, ?_⟩, ?_⟩, ?_⟩
  · exact prod_same kb ka kj ki (by omega) (by omega) (by omega) (by omega) e10
  · exact prod_same kc ka kk ki (by omega) (by omega) (by omega) (by omega) e20
  · exact prod_same kc kb kk kj (by omega) (by omega) (by omega) (by omega) e21
  · exact prod_same kd ka kl ki (by omega) (by omega) (by omega) (by omega) e30
  · exact prod_same kd kb kl kj (by omega) (by omega) (by omega) (by omega) e31
  · exact prod_same kd kc kl kk (by omega) (by omega) (by omega) (by omega) e32
theorem salike_some {a1 a2 a3 b1 b2 b3 c1 c2 c3 d1 d2 d3 i1 i2 i3 j1 j2 j3 k1 k2 k3 l1 l2 l3 : Int} (h : salikeF a1 a2 a3 b1 b2 b3 c1 c2 c3 d1 d2 d3 i1 i2 i3 j1 j2 j3 k1 k2 k3 l1 l2 l3 = true) : sValid a1 a2 a3 b1 b2 b3 c1 c2 c3 d1 d2 d3 = true ∧ sValid i1 i2 i3 j1 j2 j3 k1 k2 k3 l1 l2 l3 = true ∧ signI a1 = signI i1 ∧ prodB b1 b2 b3 a1 a2 a3 j1 j2 j3 i1 i2 i3 = true ∧ prodB c1 c2 c3 a1 a2 a3 k1 k2 k3 i1 i2 i3 = true ∧ prodB c1 c2 c3 b1 b2 b3 k1 k2 k3 j1 j2 j3 = true ∧ prodB d1 d2 d3 a1 a2 a3 l1 l2 l3 i1 i2 i3 = true ∧ prodB d1 d2 d3 b1 b2 b3 l1 l2 l3 j1 j2 j3 = true ∧ prodB d1 d2 d3 c1 c2 c3 l1 l2 l3 k1 k2 k3 = true := by
  unfold salikeF at h
  simp only [Bool.and_eq_true, beq_iff_eq] at h
  obtain ⟨⟨⟨⟨⟨⟨⟨⟨h1, h2⟩, h3⟩, h4⟩, h5⟩, h6⟩, h7⟩, h8⟩, h9⟩ := h
  exact ⟨h1, h2, h3, h4, h5, h6, h7, h8, h9⟩
theorem salike_swap {a1 a2 a3 b1 b2 b3 c1 c2 c3 d1 d2 d3 i1 i2 i3 j1 j2 j3 k1 k2 k3 l1 l2 l3 : Int} (h : salikeF a1 a2 a3 b1 b2 b3 c1 c2 c3 d1 d2 d3 i1 i2 i3 j1 j2 j3 k1 k2 k3 l1 l2 l3 = true) : salikeF i1 i2 i3 j1 j2 j3 k1 k2 k3 l1 l2 l3 a1 a2 a3 b1 b2 b3 c1 c2 c3 d1 d2 d3 = true := by
  obtain ⟨h1, h2, h3, h4, h5, h6, h7, h8, h9⟩ := salike_some h
  unfold salikeF
  rw [h1, h2, h3, prodB_swap h4, prodB_swap h5, prodB_swap h6, prodB_swap h7, prodB_swap h8, prodB_swap h9]
  simp
theorem signI_pos {n : Int} (h : signI n = 1) : 0 < n := by
  unfold signI at h
  split at h
  · cases h
  · split at h
    · exact absurd h (by decide)
    · omega
/-- Light that is alike to pure light is pure. -/
theorem salike_pure {a1 a2 a3 b1 b2 b3 c1 c2 c3 d1 d2 d3 i1 i2 i3 j1 j2 j3 k1 k2 k3 l1 l2 l3 : Int} {p q r s : (Int × Int × Int)} (h : salikeF a1 a2 a3 b1 b2 b3 c1 c2 c3 d1 d2 d3 i1 i2 i3 j1 j2 j3 k1 k2 k3 l1 l2 l3 = true) (h0 : ¬ a1 = 0) (hp : squaresF i1 i2 i3 j1 j2 j3 k1 k2 k3 l1 l2 l3 = some q) (hr : timesF i1 i2 i3 i1 i2 i3 = some s) (ha : pureF a1 a2 a3 b1 b2 b3 c1 c2 c3 d1 d2 d3 = true) : pureF i1 i2 i3 j1 j2 j3 k1 k2 k3 l1 l2 l3 = true := by
  obtain ⟨hv, he, h3, h4, h5, h6, h7, h8, h9⟩ := salike_some h
  obtain ⟨-, -, -, e, n0⟩ := pure_val ha
  obtain ⟨ga, gb, gc, gd⟩ := sValid_ok hv
  obtain ⟨gi, gj, gk, gl⟩ := sValid_ok he
  obtain ⟨ka, rfl⟩ := realB_ok ga
  obtain ⟨_, rfl⟩ := realB_ok gb
  obtain ⟨_, rfl⟩ := realB_ok gc
  obtain ⟨_, rfl⟩ := realB_ok gd
  obtain ⟨ki, rfl⟩ := realB_ok gi
  obtain ⟨_, rfl⟩ := realB_ok gj
  obtain ⟨_, rfl⟩ := realB_ok gk
  obtain ⟨_, rfl⟩ := realB_ok gl
  have m4 := prodB_val h4
  have m5 := prodB_val h5
  have m7 := prodB_val h7
  have a0 := (rv_nonneg (okF_den ka)).1 n0
  have ap : 0 < a1 := by omega
  have ip : 0 < i1 := by
    refine signI_pos (h3.symm.trans ?_)
    unfold signI
    rw [if_neg (by omega), if_neg (by omega)]
  have nz : ¬ rv a1 a3 = 0 := fun z => by
    have := (rv_is0 (okF_den ka)).1 z
    omega
  refine pure_of hp hr ?_ ((rv_nonneg (okF_den ki)).2 (by omega))
  generalize rv a1 a3 = A at *
  generalize rv b1 b3 = B at *
  generalize rv c1 c3 = C at *
  generalize rv d1 d3 = D at *
  generalize rv i1 i3 = I at *
  generalize rv j1 j3 = J at *
  generalize rv k1 k3 = K at *
  generalize rv l1 l3 = L at *
  have f1 : (J * J) * (A * A) = (B * B) * (I * I) := by grind
  have f2 : (K * K) * (A * A) = (C * C) * (I * I) := by grind
  have f3 : (L * L) * (A * A) = (D * D) * (I * I) := by grind
  have f4 : (I * I - (J * J + K * K + L * L)) * (A * A) = 0 := by grind
  grind
theorem salike_pure2 {a1 a2 a3 b1 b2 b3 c1 c2 c3 d1 d2 d3 i1 i2 i3 j1 j2 j3 k1 k2 k3 l1 l2 l3 : Int} {p q r s : (Int × Int × Int)} (h : salikeF a1 a2 a3 b1 b2 b3 c1 c2 c3 d1 d2 d3 i1 i2 i3 j1 j2 j3 k1 k2 k3 l1 l2 l3 = true) (h0 : ¬ a1 = 0) (hp : squaresF a1 a2 a3 b1 b2 b3 c1 c2 c3 d1 d2 d3 = some p) (hr : timesF a1 a2 a3 a1 a2 a3 = some r) (hq : squaresF i1 i2 i3 j1 j2 j3 k1 k2 k3 l1 l2 l3 = some q) (hs : timesF i1 i2 i3 i1 i2 i3 = some s) : pureF a1 a2 a3 b1 b2 b3 c1 c2 c3 d1 d2 d3 = pureF i1 i2 i3 j1 j2 j3 k1 k2 k3 l1 l2 l3 := by
  have i0 : ¬ i1 = 0 := by
    intro e
    have := (salike_some h).2.2.1
    rw [e] at this
    exact h0 (signI_is0.1 (this.trans (by decide)))
  cases hx : pureF a1 a2 a3 b1 b2 b3 c1 c2 c3 d1 d2 d3 with
  | true => exact (salike_pure (p := p) (r := r) h h0 hq hs hx).symm
  | false =>
    cases hy : pureF i1 i2 i3 j1 j2 j3 k1 k2 k3 l1 l2 l3 with
    | false => rfl
    | true => exact hx.symm.trans (salike_pure (p := p) (r := r) (salike_swap h) i0 hp hr hy)
end Go.Proofs.YtnfbopaafciiiabDoor
