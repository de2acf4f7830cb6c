/-
  The laws of matrices as plain mathematics: directions, rotators, plates, filters.
-/
import Derived.Test.YtnfbopaafciiiabDoorMatMath2
namespace Go.Proofs.YtnfbopaafciiiabDoor
set_option linter.unusedVariables false

theorem isq_nonneg (a : Int) : 0 ≤ a * a := by
  rcases Int.le_total 0 a with h | h
  · exact Int.mul_nonneg h h
  · exact Int.mul_nonneg_of_nonpos_of_nonpos h h
theorem low_val {x y d p q r : Int} (hd : 1 ≤ d) (h : lowF x y d = some (p, q, r)) : okF p q r = true ∧ rv p r = rv x d ∧ rv q r = rv y d := by
  obtain ⟨k, e1, e2⟩ := (low_iff hd).1 h
  exact ⟨k, (rv_eq (okF_den k) hd).2 (by rw [e1]), (rv_eq (okF_den k) hd).2 (by rw [e2])⟩
/-- Fractions of small parts are told. -/
theorem frac_of {x y d : Int} (hd : 1 ≤ d ∧ d ≤ 2000000000) (hx : -2000000000 ≤ x ∧ x ≤ 2000000000) (hy : -2000000000 ≤ y ∧ y ≤ 2000000000) : ∃ w : F3, okT w = true ∧ reT w = rv x d ∧ imT w = rv y d := by
  obtain ⟨p, q, r, e⟩ := low_told hd.1 hd.2 hx hy
  exact ⟨(p, q, r), low_val hd.1 e⟩
theorem make_small {x y d : Int} (hd : 1 ≤ d ∧ d ≤ 2000000000) (hx : -2000000000 ≤ x ∧ x ≤ 2000000000) (hy : -2000000000 ≤ y ∧ y ≤ 2000000000) : ∃ p q r, makeF x y d = some (p, q, r) ∧ okF p q r = true ∧ rv p r = rv x d ∧ rv q r = rv y d := by
  obtain ⟨p, q, r, e⟩ := low_told hd.1 hd.2 hx hy
  refine ⟨p, q, r, ?_, low_val hd.1 e⟩
  unfold makeF inB
  rw [if_pos (by simp only [Bool.and_eq_true, decide_eq_true_eq]; omega)]
  exact e
theorem rv_mul {x y n m : Int} (hn : 1 ≤ n) (hm : 1 ≤ m) : rv x n * rv y m = rv (x * y) (n * m) := by
  have h1 := ne0 hn
  have h2 := ne0 hm
  unfold rv
  have e1 : ((x * y : Int) : Rat) = (x : Rat) * y := by exact_mod_cast rfl
  have e2 : ((n * m : Int) : Rat) = (n : Rat) * m := by exact_mod_cast rfl
  rw [e1, e2]
  grind
theorem rv_add (x y n : Int) : rv (x + y) n = rv x n + rv y n := by
  unfold rv
  have e1 : ((x + y : Int) : Rat) = (x : Rat) + y := by exact_mod_cast rfl
  rw [e1]
  grind
theorem rv_sub (x y n : Int) : rv (x - y) n = rv x n - rv y n := by
  unfold rv
  have e1 : ((x - y : Int) : Rat) = (x : Rat) - y := by exact_mod_cast rfl
  rw [e1]
  grind
theorem rv_self {n : Int} (hn : 1 ≤ n) : rv n n = 1 := by
  have := ne0 hn
  unfold rv
  grind
/-- Products are told where their values are those of small parts. -/
theorem tT_told {u v : F3} {x y d : Int} (hu : okT u = true) (hv : okT v = true) (hd : 1 ≤ d ∧ d ≤ 2000000000) (hx : -2000000000 ≤ x ∧ x ≤ 2000000000) (hy : -2000000000 ≤ y ∧ y ≤ 2000000000)
    (e : reT u * reT v - imT u * imT v = rv x d) (f : reT u * imT v + imT u * reT v = rv y d) : ∃ w, tT u v = some w ∧ okT w = true ∧ reT w = rv x d ∧ imT w = rv y d := by
  obtain ⟨w, h1, h2, h3⟩ := frac_of hd hx hy
  exact ⟨w, tT_of hu hv h1 (by rw [h2, e]) (by rw [h3, f]), h1, h2, h3⟩
theorem sT_told {u v : F3} {x y d : Int} (hu : okT u = true) (hv : okT v = true) (hd : 1 ≤ d ∧ d ≤ 2000000000) (hx : -2000000000 ≤ x ∧ x ≤ 2000000000) (hy : -2000000000 ≤ y ∧ y ≤ 2000000000)
    (e : reT u + reT v = rv x d) (f : imT u + imT v = rv y d) : ∃ w, sT u v = some w ∧ okT w = true ∧ reT w = rv x d ∧ imT w = rv y d := by
  obtain ⟨w, h1, h2, h3⟩ := frac_of hd hx hy
  exact ⟨w, sT_of hu hv h1 (by rw [h2, e]) (by rw [h3, f]), h1, h2, h3⟩
/-- Two products of fractions over n, added up, are told. -/
theorem inT_told {u v x y : F3} {n u1 u2 v1 v2 x1 x2 y1 y2 : Int} (hn : 1 ≤ n ∧ n ≤ 20000) (ou : okT u = true) (ov : okT v = true) (ox : okT x = true) (oy : okT y = true)
    (bu : -n ≤ u1 ∧ u1 ≤ n ∧ -n ≤ u2 ∧ u2 ≤ n) (bv : -n ≤ v1 ∧ v1 ≤ n ∧ -n ≤ v2 ∧ v2 ≤ n) (bx : -n ≤ x1 ∧ x1 ≤ n ∧ -n ≤ x2 ∧ x2 ≤ n) (by' : -n ≤ y1 ∧ y1 ≤ n ∧ -n ≤ y2 ∧ y2 ≤ n)
    (ru : reT u = rv u1 n ∧ imT u = rv u2 n) (r_v : reT v = rv v1 n ∧ imT v = rv v2 n) (rx : reT x = rv x1 n ∧ imT x = rv x2 n) (ry : reT y = rv y1 n ∧ imT y = rv y2 n) :
    ∃ w, inT u v x y = some w ∧ okT w = true ∧ reT w = reT u * reT v - imT u * imT v + (reT x * reT y - imT x * imT y) ∧ imT w = reT u * imT v + imT u * reT v + (reT x * imT y + imT x * reT y) := by
  have B : ∀ {a b : Int}, -n ≤ a → a ≤ n → -n ≤ b → b ≤ n → -400000000 ≤ a * b ∧ a * b ≤ 400000000 := by
    intro a b h1 h2 h3 h4
    have := mul_bd (a := a) (b := b) (m := 20000) (n := 20000) (by omega) (by omega) (by omega) (by omega)
    omega
  have hnn : 1 ≤ n * n ∧ n * n ≤ 2000000000 := by
    have h1 := mul_pos1 hn.1 hn.1
    have h2 := B (a := n) (b := n) (by omega) (by omega) (by omega) (by omega)
    omega
  have a1 := B bu.1 bu.2.1 bv.1 bv.2.1
  have a2 := B bu.2.2.1 bu.2.2.2 bv.2.2.1 bv.2.2.2
  have a3 := B bu.1 bu.2.1 bv.2.2.1 bv.2.2.2
  have a4 := B bu.2.2.1 bu.2.2.2 bv.1 bv.2.1
  have c1 := B bx.1 bx.2.1 by'.1 by'.2.1
  have c2 := B bx.2.2.1 bx.2.2.2 by'.2.2.1 by'.2.2.2
  have c3 := B bx.1 bx.2.1 by'.2.2.1 by'.2.2.2
  have c4 := B bx.2.2.1 bx.2.2.2 by'.1 by'.2.1
  have E : ∀ {a b : Int}, rv a n * rv b n = rv (a * b) (n * n) := rv_mul hn.1 hn.1
  obtain ⟨m, m1, m2, m3, m4⟩ := tT_told (u := u) (v := v) (x := u1 * v1 - u2 * v2) (y := u1 * v2 + u2 * v1) ou ov hnn (by omega) (by omega) (by rw [ru.1, ru.2, r_v.1, r_v.2, E, E, rv_sub]) (by rw [ru.1, ru.2, r_v.1, r_v.2, E, E, rv_add])
  obtain ⟨k, k1, k2, k3, k4⟩ := tT_told (u := x) (v := y) (x := x1 * y1 - x2 * y2) (y := x1 * y2 + x2 * y1) ox oy hnn (by omega) (by omega) (by rw [rx.1, rx.2, ry.1, ry.2, E, E, rv_sub]) (by rw [rx.1, rx.2, ry.1, ry.2, E, E, rv_add])
  obtain ⟨w, w1, w2, -, -⟩ := sT_told (u := m) (v := k) (x := (u1 * v1 - u2 * v2) + (x1 * y1 - x2 * y2)) (y := (u1 * v2 + u2 * v1) + (x1 * y2 + x2 * y1)) m2 k2 hnn (by omega) (by omega) (by rw [m3, k3, ← rv_add]) (by rw [m4, k4, ← rv_add])
  have W := inT_of m1 k1 w1
  exact ⟨w, W, w2, (inT_val W).2.2.2.2.2.1, (inT_val W).2.2.2.2.2.2⟩
/-- What a direction is. -/
theorem dir_val {p q : Int} (h : dirB p q = true) : ∃ n x y : Int, n = p * p + q * q ∧ x = p * p - q * q ∧ y = 2 * p * q ∧ 1 ≤ n ∧ n ≤ 20000 ∧ (-n ≤ x ∧ x ≤ n) ∧ (-n ≤ y ∧ y ≤ n) ∧ rv x n * rv x n + rv y n * rv y n = 1 ∧
    okT (dirC p q) = true ∧ reT (dirC p q) = rv x n ∧ (dirC p q).2.1 = 0 ∧ okT (dirS p q) = true ∧ reT (dirS p q) = rv y n ∧ (dirS p q).2.1 = 0 ∧
    makeF x 0 n = some (dirC p q) ∧ makeF y 0 n = some (dirS p q) := by
  unfold dirB at h
  simp only [Bool.and_eq_true, Bool.not_eq_true', Bool.and_eq_false_iff, beq_eq_false_iff_ne] at h
  obtain ⟨⟨hp, hq⟩, h0⟩ := h
  have hp := inB_bd hp
  have hq := inB_bd hq
  have sq : ∀ {a : Int}, -100 ≤ a → a ≤ 100 → 0 ≤ a * a ∧ a * a ≤ 10000 := by
    intro a h1 h2
    have := mul_bd (a := a) (b := a) (m := 100) (n := 100) (by omega) (by omega) (by omega) (by omega)
    exact ⟨isq_nonneg a, by omega⟩
  have sz : ∀ {a : Int}, a ≠ 0 → 1 ≤ a * a := by
    intro a h1
    have h2 : a * a ≠ 0 := fun e => by rcases Int.mul_eq_zero.1 e with k | k <;> exact h1 k
    have := isq_nonneg a
    omega
  have sp := sq hp.1 hp.2
  have sq' := sq hq.1 hq.2
  have n1 : 1 ≤ p * p + q * q := by
    rcases h0 with h0 | h0
    · have := sz h0; omega
    · have := sz h0; omega
  have y1 : -(p * p + q * q) ≤ 2 * p * q ∧ 2 * p * q ≤ p * p + q * q := by
    have e1 : (p - q) * (p - q) = p * p + q * q - 2 * p * q := by grind
    have e2 : (p + q) * (p + q) = p * p + q * q + 2 * p * q := by grind
    have g1 := isq_nonneg (p - q)
    have g2 := isq_nonneg (p + q)
    omega
  obtain ⟨c1, c2, c3, hc, oc, rc, ic⟩ := make_small (x := p * p - q * q) (y := 0) (d := p * p + q * q) (by omega) (by omega) (by omega)
  obtain ⟨s1, s2, s3, hs, os, rs, is⟩ := make_small (x := 2 * p * q) (y := 0) (d := p * p + q * q) (by omega) (by omega) (by omega)
  have ec : dirC p q = (c1, c2, c3) := by unfold dirC; rw [hc]; rfl
  have es : dirS p q = (s1, s2, s3) := by unfold dirS; rw [hs]; rfl
  have zc : c2 = 0 := real0 oc (by rw [ic, rv_zero])
  have zs : s2 = 0 := real0 os (by rw [is, rv_zero])
  refine ⟨p * p + q * q, p * p - q * q, 2 * p * q, rfl, rfl, rfl, n1, by omega, by omega, y1, ?_, by rw [ec]; exact oc, by rw [ec]; exact rc, by rw [ec]; exact zc, by rw [es]; exact os, by rw [es]; exact rs, by rw [es]; exact zs, by rw [ec]; exact hc, by rw [es]; exact hs⟩
  have hn := ne0 n1
  have e1 : (((p * p + q * q) * (p * p + q * q) : Int) : Rat) = (((p * p - q * q) * (p * p - q * q) + 2 * p * q * (2 * p * q) : Int) : Rat) := by
    congr 1
    grind
  have e2 : ((p * p + q * q : Int) : Rat) * ((p * p + q * q : Int) : Rat) = ((p * p - q * q : Int) : Rat) * ((p * p - q * q : Int) : Rat) + ((2 * p * q : Int) : Rat) * ((2 * p * q : Int) : Rat) := by exact_mod_cast e1
  unfold rv
  generalize ((p * p + q * q : Int) : Rat) = N at *
  generalize ((p * p - q * q : Int) : Rat) = X at *
  generalize ((2 * p * q : Int) : Rat) = Y at *
  have : X / N * (X / N) + Y / N * (Y / N) = (X * X + Y * Y) / (N * N) := by grind
  rw [this, ← e2]
  grind
theorem im0 {u : F3} (h : u.2.1 = 0) : imT u = 0 := by
  unfold imT
  rw [h, rv_zero]
theorem neg_ok {u : F3} (h : okT u = true) (z : u.2.1 = 0) : okT (negT u) = true ∧ reT (negT u) = -reT u ∧ imT (negT u) = 0 := by
  obtain ⟨a, b, c⟩ := u
  have z' : b = 0 := z
  subst z'
  have e : (0 : Int) - a = -a := by omega
  have h' : okF a 0 c = true := h
  refine ⟨?_, ?_, rv_zero _⟩
  · show okF (0 - a) 0 c = true
    rw [e, okF_neg1']
    exact h'
  · show rv (0 - a) c = -rv a c
    rw [e, rv_neg]
theorem bar_real {u : F3} (z : u.2.1 = 0) : barT u = u := by
  obtain ⟨a, b, c⟩ := u
  have z' : b = 0 := z
  subst z'
  rfl
theorem rot_some {p q : Int} (h : dirB p q = true) : rotM p q = some (dirC p q, negT (dirS p q), dirS p q, dirC p q) := by
  unfold rotM
  rw [if_pos h]
theorem rot_not {p q : Int} (h : dirB p q = false) : rotM p q = none := by
  unfold rotM
  rw [if_neg (by rw [h]; decide)]
theorem rot_ok {p q : Int} {R : F4} (h : rotM p q = some R) : dirB p q = true ∧ okM R = true := by
  cases hd : dirB p q with
  | false => rw [rot_not hd] at h; cases h
  | true =>
    rw [rot_some hd] at h
    obtain rfl := (Option.some.inj h).symm
    obtain ⟨n, x, y, -, -, -, -, -, -, -, -, oc, -, zc, os, -, zs, -, -⟩ := dir_val hd
    exact ⟨rfl, okM_mk oc (neg_ok os zs).1 os oc⟩
theorem dir_neg {p q : Int} (h : dirB p q = true) : dirB p (0 - q) = true ∧ dirC p (0 - q) = dirC p q ∧ dirS p (0 - q) = negT (dirS p q) := by
  have h2 : dirB p (0 - q) = true := by
    unfold dirB inB at h ⊢
    simp only [Bool.and_eq_true, Bool.not_eq_true', Bool.and_eq_false_iff, beq_eq_false_iff_ne, decide_eq_true_eq] at h ⊢
    omega
  obtain ⟨n, x, y, e1, e2, e3, n1, n2, bx, by', sq, oc, rc, zc, os, rs, zs, mc, ms⟩ := dir_val h
  obtain ⟨n', x', y', e1', e2', e3', n1', n2', bx', by'', sq', oc', rc', zc', os', rs', zs', mc', ms'⟩ := dir_val h2
  have en : n' = n := by rw [e1', e1]; grind
  have ex : x' = x := by rw [e2', e2]; grind
  have ey : y' = -y := by rw [e3', e3]; grind
  subst en ex ey
  refine ⟨h2, ?_, ?_⟩
  · rw [mc] at mc'
    exact (Option.some.inj mc').symm
  · obtain ⟨k1, k2, k3⟩ := neg_ok os zs
    exact uniqT os' k1 (by rw [rs', k2, rs, rv_neg]) (by rw [k3, im0 zs'])
theorem rot_back {p q : Int} {R : F4} (h : rotM p q = some R) : ∃ B, rotM p (0 - q) = some B ∧ adjM R = some B ∧ mulM R B = some oneM ∧ losM R = true ∧ detM R = some (1, 0, 1) := by
  obtain ⟨hd, ok⟩ := rot_ok h
  rw [rot_some hd] at h
  obtain rfl := (Option.some.inj h).symm
  obtain ⟨h2, ec, es⟩ := dir_neg hd
  obtain ⟨n, x, y, e1, e2, e3, n1, n2, bx, by', sq, oc, rc, zc, os, rs, zs, mc, ms⟩ := dir_val hd
  obtain ⟨om, rm, im⟩ := neg_ok os zs
  have nn : negT (negT (dirS p q)) = dirS p q := by
    have hz : (negT (dirS p q)).2.1 = 0 := rfl
    obtain ⟨o2, r2, i2⟩ := neg_ok om hz
    exact uniqT o2 os (by rw [r2, rm]; grind) (by rw [i2, im0 zs])
  have B : rotM p (0 - q) = some (dirC p q, dirS p q, negT (dirS p q), dirC p q) := by rw [rot_some h2, ec, es, nn]
  have A : adjM (dirC p q, negT (dirS p q), dirS p q, dirC p q) = some (dirC p q, dirS p q, negT (dirS p q), dirC p q) := by
    rw [adjM_of ok, bar_real zc, bar_real zs, bar_real (show (negT (dirS p q)).2.1 = 0 from rfl)]
  have ic := im0 zc
  have is := im0 zs
  have C : reT (dirC p q) = rv x n ∧ imT (dirC p q) = rv 0 n := ⟨rc, by rw [ic, rv_zero]⟩
  have S : reT (dirS p q) = rv y n ∧ imT (dirS p q) = rv 0 n := ⟨rs, by rw [is, rv_zero]⟩
  have M : reT (negT (dirS p q)) = rv (-y) n ∧ imT (negT (dirS p q)) = rv 0 n := ⟨by rw [rm, rs, rv_neg], by rw [im, rv_zero]⟩
  have sq2 : reT (dirC p q) * reT (dirC p q) + reT (dirS p q) * reT (dirS p q) = 1 := by rw [rc, rs]; exact sq
  have mul : mulM (dirC p q, negT (dirS p q), dirS p q, dirC p q) (dirC p q, dirS p q, negT (dirS p q), dirC p q) = some oneM := by
    obtain ⟨w1, a1, a2, a3, a4⟩ := inT_told (u := dirC p q) (v := dirC p q) (x := negT (dirS p q)) (y := negT (dirS p q)) ⟨n1, n2⟩ oc oc om om (by omega) (by omega) (by omega) (by omega) C C M M
    obtain ⟨w2, b1, b2, b3, b4⟩ := inT_told (u := dirC p q) (v := dirS p q) (x := negT (dirS p q)) (y := dirC p q) ⟨n1, n2⟩ oc os om oc (by omega) (by omega) (by omega) (by omega) C S M C
    obtain ⟨w3, c1, c2, c3, c4⟩ := inT_told (u := dirS p q) (v := dirC p q) (x := dirC p q) (y := negT (dirS p q)) ⟨n1, n2⟩ os oc oc om (by omega) (by omega) (by omega) (by omega) S C C M
    obtain ⟨w4, d1, d2, d3, d4⟩ := inT_told (u := dirS p q) (v := dirS p q) (x := dirC p q) (y := dirC p q) ⟨n1, n2⟩ os os oc oc (by omega) (by omega) (by omega) (by omega) S S C C
    rw [rm, im, ic] at a3 a4 b4 c4
    rw [rm] at b3 c3
    rw [im, ic, is] at b3 c3
    rw [ic, is] at d3 d4
    have g1 : w1 = (1, 0, 1) := uniqT a2 okT_one (by rw [reT_one]; grind) (by rw [imT_one]; grind)
    have g2 : w2 = (0, 0, 1) := uniqT b2 okT_zero (by rw [reT_zero]; grind) (by rw [imT_zero]; grind)
    have g3 : w3 = (0, 0, 1) := uniqT c2 okT_zero (by rw [reT_zero]; grind) (by rw [imT_zero]; grind)
    have g4 : w4 = (1, 0, 1) := uniqT d2 okT_one (by rw [reT_one]; grind) (by rw [imT_one]; grind)
    subst g1 g2 g3 g4
    exact quad_of a1 b1 c1 d1
  refine ⟨_, B, A, mul, losM_of A mul, ?_⟩
  obtain ⟨u, u1, u2, u3, u4⟩ := tT_told (u := dirC p q) (v := dirC p q) (x := x * x) (y := 0) (d := n * n) oc oc (by have := mul_pos1 n1 n1; have := mul_bd (a := n) (b := n) (m := 20000) (n := 20000) (by omega) (by omega) (by omega) (by omega); omega) (by have := mul_bd (a := x) (b := x) (m := 20000) (n := 20000) (by omega) (by omega) (by omega) (by omega); omega) (by omega) (by rw [rc, ic, rv_mul n1 n1]; grind) (by rw [ic, rv_zero]; grind)
  obtain ⟨v, v1, v2, v3, v4⟩ := tT_told (u := negT (dirS p q)) (v := dirS p q) (x := -y * y) (y := 0) (d := n * n) om os (by have := mul_pos1 n1 n1; have := mul_bd (a := n) (b := n) (m := 20000) (n := 20000) (by omega) (by omega) (by omega) (by omega); omega) (by have := mul_bd (a := -y) (b := y) (m := 20000) (n := 20000) (by omega) (by omega) (by omega) (by omega); omega) (by omega) (by rw [M.1, rs, im, rv_mul n1 n1]; grind) (by rw [im, is, rv_zero]; grind)
  have hl : lT u v = some (1, 0, 1) := by
    obtain ⟨-, -, -, ru, iu⟩ := tT_val u1
    obtain ⟨-, -, -, r_v, iv⟩ := tT_val v1
    exact lT_of u2 v2 okT_one (by rw [reT_one, ru, r_v, rm, im, ic]; grind) (by rw [imT_one, iu, iv, im, ic, is]; grind)
  unfold detM lessO
  rw [u1, v1]
  exact hl
end Go.Proofs.YtnfbopaafciiiabDoor
