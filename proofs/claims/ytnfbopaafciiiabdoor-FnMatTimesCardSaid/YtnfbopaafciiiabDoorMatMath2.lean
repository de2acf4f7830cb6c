/-
  The laws of matrices as plain mathematics: what is alike, multiples.
-/
import Derived.Test.YtnfbopaafciiiabDoorMatMath
import Derived.Test.YtnfbopaafciiiabDoorStokesMath5
namespace Go.Proofs.YtnfbopaafciiiabDoor
set_option linter.unusedVariables false

/-- Numbers so small that their products are told. -/
def smaT (u : F3) : Prop := -10000 < u.1 ∧ u.1 < 10000 ∧ -10000 < u.2.1 ∧ u.2.1 < 10000 ∧ u.2.2 < 10000
theorem sma_told {u v : F3} (hu : okT u = true) (hv : okT v = true) (su : smaT u) (sv : smaT v) : ∃ w, tT u v = some w := by
  obtain ⟨x, y, z⟩ := u
  obtain ⟨a, b, c⟩ := v
  obtain ⟨s1, s2, s3, s4, s5⟩ := su
  obtain ⟨t1, t2, t3, t4, t5⟩ := sv
  simp only at s1 s2 s3 s4 s5 t1 t2 t3 t4 t5
  have z1 := okF_den hu
  have c1 := okF_den hv
  simp only at z1 c1
  have m1 : z * c ≤ 9999 * 9999 := Int.mul_le_mul (by omega) (by omega) (by omega) (by omega)
  have m2 : (x * a).natAbs ≤ 9999 * 9999 := by rw [Int.natAbs_mul]; exact Nat.mul_le_mul (by omega) (by omega)
  have m3 : (y * b).natAbs ≤ 9999 * 9999 := by rw [Int.natAbs_mul]; exact Nat.mul_le_mul (by omega) (by omega)
  have m4 : (x * b).natAbs ≤ 9999 * 9999 := by rw [Int.natAbs_mul]; exact Nat.mul_le_mul (by omega) (by omega)
  have m5 : (y * a).natAbs ≤ 9999 * 9999 := by rw [Int.natAbs_mul]; exact Nat.mul_le_mul (by omega) (by omega)
  obtain ⟨p, q, r, e⟩ := low_told (x := x * a - y * b) (y := x * b + y * a) (mul_pos1 z1 c1) (by omega) (by omega) (by omega)
  refine ⟨(p, q, r), ?_⟩
  show timesF x y z a b c = some (p, q, r)
  have hu' : okF x y z = true := hu
  have hv' : okF a b c = true := hv
  unfold timesF
  rw [hu', hv']
  exact e
theorem crs_val {u v s t : F3} (h : crsM u v s t = true) : reT u * reT t - imT u * imT t = reT v * reT s - imT v * imT s ∧ reT u * imT t + imT u * reT t = reT v * imT s + imT v * reT s := by
  unfold crsM at h
  rw [Bool.and_eq_true, beq_iff_eq] at h
  obtain ⟨w, hw⟩ := Option.isSome_iff_exists.1 h.1
  have hx := h.2.symm.trans hw
  obtain ⟨-, -, -, e1, e2⟩ := tT_val hw
  obtain ⟨-, -, -, f1, f2⟩ := tT_val hx
  exact ⟨by rw [← e1, f1], by rw [← e2, f2]⟩
theorem crs_swap {u v s t : F3} (h : crsM u v s t = true) : crsM s t u v = true := by
  unfold crsM at h ⊢
  rw [Bool.and_eq_true, beq_iff_eq] at h ⊢
  rw [tT_comm s v, tT_comm t u, ← h.2]
  exact ⟨h.1, rfl⟩
theorem crs_of {u v s t : F3} (hu : okT u = true) (hv : okT v = true) (hs : okT s = true) (ht : okT t = true) (su : smaT u) (sv : smaT v) (ss : smaT s) (st : smaT t)
    (e : reT u * reT t - imT u * imT t = reT v * reT s - imT v * imT s) (f : reT u * imT t + imT u * reT t = reT v * imT s + imT v * reT s) : crsM u v s t = true := by
  obtain ⟨w, hw⟩ := sma_told hu ht su st
  obtain ⟨x, hx⟩ := sma_told hv hs sv ss
  obtain ⟨-, -, o1, e1, e2⟩ := tT_val hw
  obtain ⟨-, -, o2, f1, f2⟩ := tT_val hx
  have : w = x := uniqT o1 o2 (by rw [e1, f1, e]) (by rw [e2, f2, f])
  unfold crsM
  rw [hw, hx, this]
  simp
theorem alk_some {a b c d i j k l : F3} (h : alkM (a, b, c, d) (i, j, k, l) = true) : okM (a, b, c, d) = true ∧ okM (i, j, k, l) = true ∧ darkM (a, b, c, d) = darkM (i, j, k, l) ∧
    crsM b a j i = true ∧ crsM c a k i = true ∧ crsM c b k j = true ∧ crsM d a l i = true ∧ crsM d b l j = true ∧ crsM d c l k = true := by
  unfold alkM at h
  simp only [Bool.and_eq_true, beq_iff_eq] at h
  obtain ⟨⟨⟨⟨⟨⟨⟨⟨h1, h2⟩, h3⟩, h4⟩, h5⟩, h6⟩, h7⟩, h8⟩, h9⟩ := h
  exact ⟨h1, h2, h3, h4, h5, h6, h7, h8, h9⟩
theorem alk_of {a b c d i j k l : F3} (h1 : okM (a, b, c, d) = true) (h2 : okM (i, j, k, l) = true) (h3 : darkM (a, b, c, d) = darkM (i, j, k, l))
    (h4 : crsM b a j i = true) (h5 : crsM c a k i = true) (h6 : crsM c b k j = true) (h7 : crsM d a l i = true) (h8 : crsM d b l j = true) (h9 : crsM d c l k = true) : alkM (a, b, c, d) (i, j, k, l) = true := by
  unfold alkM
  simp only [Bool.and_eq_true, beq_iff_eq]
  exact ⟨⟨⟨⟨⟨⟨⟨⟨h1, h2⟩, h3⟩, h4⟩, h5⟩, h6⟩, h7⟩, h8⟩, h9⟩
theorem alk_swap {A B : F4} (h : alkM A B = true) : alkM B A = true := by
  obtain ⟨a, b, c, d⟩ := A
  obtain ⟨i, j, k, l⟩ := B
  obtain ⟨h1, h2, h3, h4, h5, h6, h7, h8, h9⟩ := alk_some h
  exact alk_of h2 h1 h3.symm (crs_swap h4) (crs_swap h5) (crs_swap h6) (crs_swap h7) (crs_swap h8) (crs_swap h9)
theorem dark4 {a b c d : F3} (h : okM (a, b, c, d) = true) : darkM (a, b, c, d) = true ↔ ((reT a = 0 ∧ imT a = 0) ∧ (reT b = 0 ∧ imT b = 0) ∧ (reT c = 0 ∧ imT c = 0) ∧ (reT d = 0 ∧ imT d = 0)) := by
  obtain ⟨h1, h2, h3, h4⟩ := okM_of h
  rw [← isz h1, ← isz h2, ← isz h3, ← isz h4]
  unfold darkM
  simp only [Bool.and_eq_true, beq_iff_eq]
  constructor
  · rintro ⟨⟨⟨⟨⟨⟨⟨p1, p2⟩, p3⟩, p4⟩, p5⟩, p6⟩, p7⟩, p8⟩
    exact ⟨⟨p1, p2⟩, ⟨p3, p4⟩, ⟨p5, p6⟩, p7, p8⟩
  · rintro ⟨⟨p1, p2⟩, ⟨p3, p4⟩, ⟨p5, p6⟩, p7, p8⟩
    exact ⟨⟨⟨⟨⟨⟨⟨p1, p2⟩, p3⟩, p4⟩, p5⟩, p6⟩, p7⟩, p8⟩
/-- A product is 0 where one of both is. -/
theorem tz {u1 u2 v1 v2 : Rat} (e : u1 * v1 - u2 * v2 = 0) (f : u1 * v2 + u2 * v1 = 0) (h : ¬ (v1 = 0 ∧ v2 = 0)) : u1 = 0 ∧ u2 = 0 := by
  have n : ¬ v1 * v1 + v2 * v2 = 0 := fun k => h (by
    have := (sq_sum0 (a := v1) (b := v2) (c := 0) (d := 0)).1 (by grind)
    exact ⟨this.1, this.2.1⟩)
  have e1 : u1 * (v1 * v1 + v2 * v2) = 0 := by
    have : u1 * (v1 * v1 + v2 * v2) = v1 * (u1 * v1 - u2 * v2) + v2 * (u1 * v2 + u2 * v1) := by grind
    rw [this, e, f]; grind
  have e2 : u2 * (v1 * v1 + v2 * v2) = 0 := by
    have : u2 * (v1 * v1 + v2 * v2) = v1 * (u1 * v2 + u2 * v1) - v2 * (u1 * v1 - u2 * v2) := by grind
    rw [this, e, f]; grind
  exact ⟨(Rat.mul_eq_zero.1 e1).resolve_right n, (Rat.mul_eq_zero.1 e2).resolve_right n⟩
/-- Of alike matrices the first columns are both dark or none. -/
theorem alk_dark {a b c d i j k l : F3} (h : alkM (a, b, c, d) (i, j, k, l) = true) (hd : (reT a = 0 ∧ imT a = 0) ∧ (reT c = 0 ∧ imT c = 0)) : (reT i = 0 ∧ imT i = 0) ∧ (reT k = 0 ∧ imT k = 0) := by
  obtain ⟨h1, h2, h3, h4, h5, h6, h7, h8, h9⟩ := alk_some h
  obtain ⟨⟨ra, ia⟩, rc, ic⟩ := hd
  have z4 := crs_val h4
  have z6 := crs_val h6
  have z7 := crs_val h7
  have z9 := crs_val h9
  rw [ra, ia] at z4 z7
  rw [rc, ic] at z6 z9
  by_cases hb : reT b = 0 ∧ imT b = 0
  · by_cases hdd : reT d = 0 ∧ imT d = 0
    · have : darkM (a, b, c, d) = true := (dark4 h1).2 ⟨⟨ra, ia⟩, hb, ⟨rc, ic⟩, hdd⟩
      rw [h3] at this
      have t := (dark4 h2).1 this
      exact ⟨t.1, t.2.2.1⟩
    · exact ⟨tz (by grind) (by grind) hdd, tz (by grind) (by grind) hdd⟩
  · exact ⟨tz (by grind) (by grind) hb, tz (by grind) (by grind) hb⟩
/-- The first columns of alike matrices are alike. -/
theorem alk_col {a b c d i j k l x1 x2 y1 y2 m n : F3} (h : alkM (a, b, c, d) (i, j, k, l) = true) (hx : appM (a, b, c, d) ((1, 0, 1), (0, 0, 1)) = some (x1, x2)) (hy : appM (i, j, k, l) ((1, 0, 1), (0, 0, 1)) = some (y1, y2))
    (hm : tT x1 y2 = some m) (hn : tT x2 y1 = some n) : alikeF x1.1 x1.2.1 x1.2.2 x2.1 x2.2.1 x2.2.2 y1.1 y1.2.1 y1.2.2 y2.1 y2.2.1 y2.2.2 = true := by
  obtain ⟨h1, h2, h3, h4, h5, h6, h7, h8, h9⟩ := alk_some h
  have D1 := alk_dark h
  have D2 := alk_dark (alk_swap h)
  obtain ⟨f1, f2⟩ := appM_some hx
  obtain ⟨g1, g2⟩ := appM_some hy
  obtain ⟨oa, ob, oc, od⟩ := okM_of h1
  obtain ⟨oi, oj, ok, ol⟩ := okM_of h2
  have e1 : x1 = a := Option.some.inj (f1.symm.trans (inT_of (tT_one oa) (tT_zero ob) (sT_zero oa)))
  have e2 : x2 = c := Option.some.inj (f2.symm.trans (inT_of (tT_one oc) (tT_zero od) (sT_zero oc)))
  have e3 : y1 = i := Option.some.inj (g1.symm.trans (inT_of (tT_one oi) (tT_zero oj) (sT_zero oi)))
  have e4 : y2 = k := Option.some.inj (g2.symm.trans (inT_of (tT_one ok) (tT_zero ol) (sT_zero ok)))
  subst e1 e2 e3 e4
  obtain ⟨-, -, o1, r1, i1⟩ := tT_val hm
  obtain ⟨-, -, o2, r2, i2⟩ := tT_val hn
  obtain ⟨v1, v2⟩ := crs_val h5
  have mn : m = n := uniqT o1 o2 (by grind) (by grind)
  subst mn
  obtain ⟨m1, m2, m3⟩ := m
  rw [alike_some hm hn]
  simp only [beq_self_eq_true, Bool.true_and, beq_iff_eq]
  have q1 : darkB x1.1 x1.2.1 x1.2.2 x2.1 x2.2.1 x2.2.2 = true ↔ (reT x1 = 0 ∧ imT x1 = 0) ∧ (reT x2 = 0 ∧ imT x2 = 0) := by
    rw [dark_iff, ← isz oa, ← isz oc, and_assoc]
  have q2 : darkB y1.1 y1.2.1 y1.2.2 y2.1 y2.2.1 y2.2.2 = true ↔ (reT y1 = 0 ∧ imT y1 = 0) ∧ (reT y2 = 0 ∧ imT y2 = 0) := by
    rw [dark_iff, ← isz oi, ← isz ok, and_assoc]
  rw [Bool.eq_iff_iff, q1, q2]
  exact ⟨D1, D2⟩
/-- Multiples of small matrices are alike to them. -/
theorem scl_alk {a b c d q w x y z : F3} (h : sclM (a, b, c, d) q = some (w, x, y, z)) (hq : ¬ (q.1 = 0 ∧ q.2.1 = 0)) (sa : smaT a) (sb : smaT b) (sc : smaT c) (sd : smaT d) (sw : smaT w) (sx : smaT x) (sy : smaT y) (sz : smaT z) : alkM (a, b, c, d) (w, x, y, z) = true := by
  obtain ⟨k1, k2⟩ := sclM_ok h
  obtain ⟨h1, h2, h3, h4⟩ := sclM_some h
  obtain ⟨oa, oq, ow, r1, i1⟩ := tT_val h1
  obtain ⟨ob, -, ox, r2, i2⟩ := tT_val h2
  obtain ⟨oc, -, oy, r3, i3⟩ := tT_val h3
  obtain ⟨od, -, oz, r4, i4⟩ := tT_val h4
  rw [isz oq] at hq
  have Z : ∀ {u v : F3}, reT v = reT u * reT q - imT u * imT q → imT v = reT u * imT q + imT u * reT q → ((reT u = 0 ∧ imT u = 0) ↔ (reT v = 0 ∧ imT v = 0)) := by
    intro u v e f
    constructor
    · rintro ⟨g1, g2⟩
      rw [e, f, g1, g2]
      constructor <;> grind
    · rintro ⟨g1, g2⟩
      exact tz (by rw [← e, g1]) (by rw [← f, g2]) hq
  have hd : darkM (a, b, c, d) = darkM (w, x, y, z) := by
    rw [Bool.eq_iff_iff, dark4 k1, dark4 k2, Z r1 i1, Z r2 i2, Z r3 i3, Z r4 i4]
  exact alk_of k1 k2 hd (crs_of ob oa ox ow sb sa sx sw (by grind) (by grind)) (crs_of oc oa oy ow sc sa sy sw (by grind) (by grind)) (crs_of oc ob oy ox sc sb sy sx (by grind) (by grind)) (crs_of od oa oz ow sd sa sz sw (by grind) (by grind)) (crs_of od ob oz ox sd sb sz sx (by grind) (by grind)) (crs_of od oc oz oy sd sc sz sy (by grind) (by grind))
end Go.Proofs.YtnfbopaafciiiabDoor
