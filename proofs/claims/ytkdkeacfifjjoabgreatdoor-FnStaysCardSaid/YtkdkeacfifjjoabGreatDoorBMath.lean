/-
  Vectors, four numbers, matrices, directions as plain mathematics.
-/
import Derived.Test.YtkdkeacfifjjoabGreatDoorBMathA
import Derived.Test.YtkdkeacfifjjoabGreatDoorBSpecV
namespace Go.Proofs.YtkdkeacfifjjoabGreatDoor
open Go.ChangeShapes Go.WideShapes Go.ChangeAt Go.RowKit
set_option linter.unusedVariables false

theorem okF_swap (x y z : Int) : okF x y z = okF y x z := by
  unfold okF
  rw [gcd3_nat, gcd3_nat, Nat.gcd_assoc, Nat.gcd_comm x.natAbs, ← Nat.gcd_assoc]
  cases partB x <;> cases partB y <;> rfl
theorem okF_neg1' (x y z : Int) : okF (-x) y z = okF x y z := by rw [okF_swap, okF_neg1, okF_swap]
theorem timesF_comm (x y z a b c : Int) : timesF x y z a b c = timesF a b c x y z := by
  unfold timesF
  rw [Bool.and_comm, Int.mul_comm x a, Int.mul_comm y b, Int.mul_comm x b, Int.mul_comm y a, Int.mul_comm z c, Int.add_comm]
theorem isq_nonneg (a : Int) : 0 ≤ a * a := by
  rcases Int.le_total 0 a with h | h
  · exact Int.mul_nonneg h h
  · exact Int.mul_nonneg_of_nonpos_of_nonpos h h
theorem low_val {x y d p q r : Int} (hd : 1 ≤ d) (h : lowF x y d = some (p, q, r)) : okF p q r = true ∧ rv p r = rv x d ∧ rv q r = rv y d := by
  obtain ⟨k, e1, e2⟩ := (low_iff hd).1 h
  exact ⟨k, (rv_eq (okF_den k) hd).2 (by rw [e1]), (rv_eq (okF_den k) hd).2 (by rw [e2])⟩
/-- Fractions of small parts are told. -/
theorem frac_of {x y d : Int} (hd : 1 ≤ d ∧ d ≤ 2000000000) (hx : -2000000000 ≤ x ∧ x ≤ 2000000000) (hy : -2000000000 ≤ y ∧ y ≤ 2000000000) : ∃ w : F3, okT w = true ∧ reT w = rv x d ∧ imT w = rv y d := by
  obtain ⟨p, q, r, e⟩ := low_told hd.1 hd.2 hx hy
  exact ⟨(p, q, r), low_val hd.1 e⟩
theorem make_small {x y d : Int} (hd : 1 ≤ d ∧ d ≤ 2000000000) (hx : -2000000000 ≤ x ∧ x ≤ 2000000000) (hy : -2000000000 ≤ y ∧ y ≤ 2000000000) : ∃ p q r, makeF x y d = some (p, q, r) ∧ okF p q r = true ∧ rv p r = rv x d ∧ rv q r = rv y d := by
  obtain ⟨p, q, r, e⟩ := low_told hd.1 hd.2 hx hy
  refine ⟨p, q, r, ?_, low_val hd.1 e⟩
  unfold makeF inB
  rw [if_pos (by simp only [Bool.and_eq_true, decide_eq_true_eq]; omega)]
  exact e
theorem rv_mul {x y n m : Int} (hn : 1 ≤ n) (hm : 1 ≤ m) : rv x n * rv y m = rv (x * y) (n * m) := by
  have h1 := ne0 hn
  have h2 := ne0 hm
  unfold rv
  have e1 : ((x * y : Int) : Rat) = (x : Rat) * y := by exact_mod_cast rfl
  have e2 : ((n * m : Int) : Rat) = (n : Rat) * m := by exact_mod_cast rfl
  rw [e1, e2]
  grind
theorem rv_add (x y n : Int) : rv (x + y) n = rv x n + rv y n := by
  unfold rv
  have e1 : ((x + y : Int) : Rat) = (x : Rat) + y := by exact_mod_cast rfl
  rw [e1]
  grind
theorem rv_sub (x y n : Int) : rv (x - y) n = rv x n - rv y n := by
  unfold rv
  have e1 : ((x - y : Int) : Rat) = (x : Rat) - y := by exact_mod_cast rfl
  rw [e1]
  grind
/-- Products are told where their values are those of small parts. -/
theorem tT_told {u v : F3} {x y d : Int} (hu : okT u = true) (hv : okT v = true) (hd : 1 ≤ d ∧ d ≤ 2000000000) (hx : -2000000000 ≤ x ∧ x ≤ 2000000000) (hy : -2000000000 ≤ y ∧ y ≤ 2000000000)
    (e : reT u * reT v - imT u * imT v = rv x d) (f : reT u * imT v + imT u * reT v = rv y d) : ∃ w, tT u v = some w ∧ okT w = true ∧ reT w = rv x d ∧ imT w = rv y d := by
  obtain ⟨w, h1, h2, h3⟩ := frac_of hd hx hy
  exact ⟨w, tT_of hu hv h1 (by rw [h2, e]) (by rw [h3, f]), h1, h2, h3⟩
theorem sT_told {u v : F3} {x y d : Int} (hu : okT u = true) (hv : okT v = true) (hd : 1 ≤ d ∧ d ≤ 2000000000) (hx : -2000000000 ≤ x ∧ x ≤ 2000000000) (hy : -2000000000 ≤ y ∧ y ≤ 2000000000)
    (e : reT u + reT v = rv x d) (f : imT u + imT v = rv y d) : ∃ w, sT u v = some w ∧ okT w = true ∧ reT w = rv x d ∧ imT w = rv y d := by
  obtain ⟨w, h1, h2, h3⟩ := frac_of hd hx hy
  exact ⟨w, sT_of hu hv h1 (by rw [h2, e]) (by rw [h3, f]), h1, h2, h3⟩
/-- Two products of fractions over n, added up, are told. -/
theorem inT_told {u v x y : F3} {n u1 u2 v1 v2 x1 x2 y1 y2 : Int} (hn : 1 ≤ n ∧ n ≤ 20000) (ou : okT u = true) (ov : okT v = true) (ox : okT x = true) (oy : okT y = true)
    (bu : -n ≤ u1 ∧ u1 ≤ n ∧ -n ≤ u2 ∧ u2 ≤ n) (bv : -n ≤ v1 ∧ v1 ≤ n ∧ -n ≤ v2 ∧ v2 ≤ n) (bx : -n ≤ x1 ∧ x1 ≤ n ∧ -n ≤ x2 ∧ x2 ≤ n) (by' : -n ≤ y1 ∧ y1 ≤ n ∧ -n ≤ y2 ∧ y2 ≤ n)
    (ru : reT u = rv u1 n ∧ imT u = rv u2 n) (r_v : reT v = rv v1 n ∧ imT v = rv v2 n) (rx : reT x = rv x1 n ∧ imT x = rv x2 n) (ry : reT y = rv y1 n ∧ imT y = rv y2 n) :
    ∃ w, inT u v x y = some w ∧ okT w = true ∧ reT w = reT u * reT v - imT u * imT v + (reT x * reT y - imT x * imT y) ∧ imT w = reT u * imT v + imT u * reT v + (reT x * imT y + imT x * reT y) := by
  have B : ∀ {a b : Int}, -n ≤ a → a ≤ n → -n ≤ b → b ≤ n → -400000000 ≤ a * b ∧ a * b ≤ 400000000 := by
    intro a b h1 h2 h3 h4
    have := mul_bd (a := a) (b := b) (m := 20000) (n := 20000) (by omega) (by omega) (by omega) (by omega)
    omega
  have hnn : 1 ≤ n * n ∧ n * n ≤ 2000000000 := by
    have h1 := mul_pos1 hn.1 hn.1
    have h2 := B (a := n) (b := n) (by omega) (by omega) (by omega) (by omega)
    omega
  have a1 := B bu.1 bu.2.1 bv.1 bv.2.1
  have a2 := B bu.2.2.1 bu.2.2.2 bv.2.2.1 bv.2.2.2
  have a3 := B bu.1 bu.2.1 bv.2.2.1 bv.2.2.2
  have a4 := B bu.2.2.1 bu.2.2.2 bv.1 bv.2.1
  have c1 := B bx.1 bx.2.1 by'.1 by'.2.1
  have c2 := B bx.2.2.1 bx.2.2.2 by'.2.2.1 by'.2.2.2
  have c3 := B bx.1 bx.2.1 by'.2.2.1 by'.2.2.2
  have c4 := B bx.2.2.1 bx.2.2.2 by'.1 by'.2.1
  have E : ∀ {a b : Int}, rv a n * rv b n = rv (a * b) (n * n) := rv_mul hn.1 hn.1
  obtain ⟨m, m1, m2, m3, m4⟩ := tT_told (u := u) (v := v) (x := u1 * v1 - u2 * v2) (y := u1 * v2 + u2 * v1) ou ov hnn (by omega) (by omega) (by rw [ru.1, ru.2, r_v.1, r_v.2, E, E, rv_sub]) (by rw [ru.1, ru.2, r_v.1, r_v.2, E, E, rv_add])
  obtain ⟨k, k1, k2, k3, k4⟩ := tT_told (u := x) (v := y) (x := x1 * y1 - x2 * y2) (y := x1 * y2 + x2 * y1) ox oy hnn (by omega) (by omega) (by rw [rx.1, rx.2, ry.1, ry.2, E, E, rv_sub]) (by rw [rx.1, rx.2, ry.1, ry.2, E, E, rv_add])
  obtain ⟨w, w1, w2, -, -⟩ := sT_told (u := m) (v := k) (x := (u1 * v1 - u2 * v2) + (x1 * y1 - x2 * y2)) (y := (u1 * v2 + u2 * v1) + (x1 * y2 + x2 * y1)) m2 k2 hnn (by omega) (by omega) (by rw [m3, k3, ← rv_add]) (by rw [m4, k4, ← rv_add])
  have W := inT_of m1 k1 w1
  exact ⟨w, W, w2, (inT_val W).2.2.2.2.2.1, (inT_val W).2.2.2.2.2.2⟩
/-- What a direction is. -/
theorem dir_val {p q : Int} (h : dirB p q = true) : ∃ n x y : Int, n = p * p + q * q ∧ x = p * p - q * q ∧ y = 2 * p * q ∧ 1 ≤ n ∧ n ≤ 20000 ∧ (-n ≤ x ∧ x ≤ n) ∧ (-n ≤ y ∧ y ≤ n) ∧ rv x n * rv x n + rv y n * rv y n = 1 ∧
    okT (dirC p q) = true ∧ reT (dirC p q) = rv x n ∧ (dirC p q).2.1 = 0 ∧ okT (dirS p q) = true ∧ reT (dirS p q) = rv y n ∧ (dirS p q).2.1 = 0 ∧
    makeF x 0 n = some (dirC p q) ∧ makeF y 0 n = some (dirS p q) := by
  unfold dirB at h
  simp only [Bool.and_eq_true, Bool.not_eq_true', Bool.and_eq_false_iff, beq_eq_false_iff_ne] at h
  obtain ⟨⟨hp, hq⟩, h0⟩ := h
  have hp := inB_bd hp
  have hq := inB_bd hq
  have sq : ∀ {a : Int}, -100 ≤ a → a ≤ 100 → 0 ≤ a * a ∧ a * a ≤ 10000 := by
    intro a h1 h2
    have := mul_bd (a := a) (b := a) (m := 100) (n := 100) (by omega) (by omega) (by omega) (by omega)
    exact ⟨isq_nonneg a, by omega⟩
  have sz : ∀ {a : Int}, a ≠ 0 → 1 ≤ a * a := by
    intro a h1
    have h2 : a * a ≠ 0 := fun e => by rcases Int.mul_eq_zero.1 e with k | k <;> exact h1 k
    have := isq_nonneg a
    omega
  have sp := sq hp.1 hp.2
  have sq' := sq hq.1 hq.2
  have n1 : 1 ≤ p * p + q * q := by
    rcases h0 with h0 | h0
    · have := sz h0; omega
    · have := sz h0; omega
  have y1 : -(p * p + q * q) ≤ 2 * p * q ∧ 2 * p * q ≤ p * p + q * q := by
    have e1 : (p - q) * (p - q) = p * p + q * q - 2 * p * q := by grind
    have e2 : (p + q) * (p + q) = p * p + q * q + 2 * p * q := by grind
    have g1 := isq_nonneg (p - q)
    have g2 := isq_nonneg (p + q)
    omega
  obtain ⟨c1, c2, c3, hc, oc, rc, ic⟩ := make_small (x := p * p - q * q) (y := 0) (d := p * p + q * q) (by omega) (by omega) (by omega)
  obtain ⟨s1, s2, s3, hs, os, rs, is⟩ := make_small (x := 2 * p * q) (y := 0) (d := p * p + q * q) (by omega) (by omega) (by omega)
  have ec : dirC p q = (c1, c2, c3) := by unfold dirC; rw [hc]; rfl
  have es : dirS p q = (s1, s2, s3) := by unfold dirS; rw [hs]; rfl
  have zc : c2 = 0 := real0 oc (by rw [ic, rv_zero])
  have zs : s2 = 0 := real0 os (by rw [is, rv_zero])
  refine ⟨p * p + q * q, p * p - q * q, 2 * p * q, rfl, rfl, rfl, n1, by omega, by omega, y1, ?_, by rw [ec]; exact oc, by rw [ec]; exact rc, by rw [ec]; exact zc, by rw [es]; exact os, by rw [es]; exact rs, by rw [es]; exact zs, by rw [ec]; exact hc, by rw [es]; exact hs⟩
  have hn := ne0 n1
  have e1 : (((p * p + q * q) * (p * p + q * q) : Int) : Rat) = (((p * p - q * q) * (p * p - q * q) + 2 * p * q * (2 * p * q) : Int) : Rat) := by
    congr 1
    grind
  have e2 : ((p * p + q * q : Int) : Rat) * ((p * p + q * q : Int) : Rat) = ((p * p - q * q : Int) : Rat) * ((p * p - q * q : Int) : Rat) + ((2 * p * q : Int) : Rat) * ((2 * p * q : Int) : Rat) := by exact_mod_cast e1
  unfold rv
  generalize ((p * p + q * q : Int) : Rat) = N at *
  generalize ((p * p - q * q : Int) : Rat) = X at *
  generalize ((2 * p * q : Int) : Rat) = Y at *
  have : X / N * (X / N) + Y / N * (Y / N) = (X * X + Y * Y) / (N * N) := by grind
  rw [this, ← e2]
  grind
theorem neg_ok {u : F3} (h : okT u = true) (z : u.2.1 = 0) : okT (negT u) = true ∧ reT (negT u) = -reT u ∧ imT (negT u) = 0 := by
  obtain ⟨a, b, c⟩ := u
  have z' : b = 0 := z
  subst z'
  have e : (0 : Int) - a = -a := by omega
  have h' : okF a 0 c = true := h
  refine ⟨?_, ?_, rv_zero _⟩
  · show okF (0 - a) 0 c = true
    rw [e, okF_neg1']
    exact h'
  · show rv (0 - a) c = -rv a c
    rw [e, rv_neg]
theorem bar_real {u : F3} (z : u.2.1 = 0) : barT u = u := by
  obtain ⟨a, b, c⟩ := u
  have z' : b = 0 := z
  subst z'
  rfl
theorem rot_some {p q : Int} (h : dirB p q = true) : rotM p q = some (dirC p q, negT (dirS p q), dirS p q, dirC p q) := by
  unfold rotM
  rw [if_pos h]
theorem rot_not {p q : Int} (h : dirB p q = false) : rotM p q = none := by
  unfold rotM
  rw [if_neg (by rw [h]; decide)]
theorem rot_ok {p q : Int} {R : F4} (h : rotM p q = some R) : dirB p q = true ∧ okM R = true := by
  cases hd : dirB p q with
  | false => rw [rot_not hd] at h; cases h
  | true =>
    rw [rot_some hd] at h
    obtain rfl := (Option.some.inj h).symm
    obtain ⟨n, x, y, -, -, -, -, -, -, -, -, oc, -, zc, os, -, zs, -, -⟩ := dir_val hd
    exact ⟨rfl, okM_mk oc (neg_ok os zs).1 os oc⟩
/-- A power of i in whole numbers. -/
def phr (k : Int) : Int := (phaT k).1
def phi (k : Int) : Int := (phaT k).2.1
theorem pha_in {k : Int} (h : inB k 0 3 = true) : k = 0 ∨ k = 1 ∨ k = 2 ∨ k = 3 := by
  have := inB_bd h
  omega
theorem pha_ok (k : Int) : okT (phaT k) = true ∧ reT (phaT k) = (phr k : Rat) ∧ imT (phaT k) = (phi k : Rat) ∧ -1 ≤ phr k ∧ phr k ≤ 1 ∧ -1 ≤ phi k ∧ phi k ≤ 1 ∧ (phr k : Rat) * phr k + (phi k : Rat) * phi k = 1 := by
  unfold phr phi phaT
  split
  · exact ⟨by decide, rv_one _, rv_one _, by decide, by decide, by decide, by decide, by grind⟩
  · split
    · exact ⟨by decide, rv_one _, rv_one _, by decide, by decide, by decide, by decide, by grind⟩
    · split
      · exact ⟨by decide, rv_one _, rv_one _, by decide, by decide, by decide, by decide, by grind⟩
      · exact ⟨by decide, rv_one _, rv_one _, by decide, by decide, by decide, by decide, by grind⟩
theorem rv_scale {x n k : Int} : rv (x * k) n = rv x n * (k : Rat) := by
  unfold rv
  have e1 : ((x * k : Int) : Rat) = (x : Rat) * k := by exact_mod_cast rfl
  rw [e1]
  grind
/-- A real fraction times a power of i. -/
theorem pha_times {v : F3} (h : okT v = true) (z : v.2.1 = 0) {k : Int} (hk : inB k 0 3 = true) : ∃ m, tT v (phaT k) = some m ∧ okT m = true ∧ reT m = reT v * (phr k : Rat) ∧ imT m = reT v * (phi k : Rat) := by
  obtain ⟨ok, r, i, -⟩ := pha_ok k
  have iz := im0 z
  obtain ⟨a, b, c⟩ := v
  have z' : b = 0 := z
  subst z'
  have h' : okF a 0 c = true := h
  have key : ∀ m : F3, okT m = true → reT m = reT (a, 0, c) * (phr k : Rat) → imT m = reT (a, 0, c) * (phi k : Rat) → ∃ m, tT (a, 0, c) (phaT k) = some m ∧ okT m = true ∧ reT m = reT (a, 0, c) * (phr k : Rat) ∧ imT m = reT (a, 0, c) * (phi k : Rat) :=
    fun m o e f => ⟨m, tT_of h ok o (by rw [e, r, i, iz]; grind) (by rw [f, r, i, iz]; grind), o, e, f⟩
  have e1 : ((1 : Int) : Rat) = 1 := by exact_mod_cast rfl
  have e0 : ((0 : Int) : Rat) = 0 := by exact_mod_cast rfl
  have em : ((-1 : Int) : Rat) = -1 := by exact_mod_cast rfl
  rcases pha_in hk with rfl | rfl | rfl | rfl
  · refine key (a, 0, c) h ?_ ?_
    · rw [show phr 0 = 1 from rfl, e1]; grind
    · rw [show phi 0 = 0 from rfl, e0, iz]; grind
  · refine key (0, a, c) (by show okF 0 a c = true; rw [okF_swap]; exact h') ?_ ?_
    · rw [show phr 1 = 0 from rfl, e0, show reT (0, a, c) = 0 from rv_zero c]; grind
    · rw [show phi 1 = 1 from rfl, e1, show imT (0, a, c) = reT (a, 0, c) from rfl]; grind
  · refine key (-a, 0, c) (by show okF (-a) 0 c = true; rw [okF_neg1']; exact h') ?_ ?_
    · rw [show phr 2 = -1 from rfl, em, show reT (-a, 0, c) = -reT (a, 0, c) from rv_neg a c]; grind
    · rw [show phi 2 = 0 from rfl, e0, show imT (-a, 0, c) = 0 from rv_zero c]; grind
  · refine key (0, -a, c) (by show okF 0 (-a) c = true; rw [okF_swap, okF_neg1']; exact h') ?_ ?_
    · rw [show phr 3 = 0 from rfl, e0, show reT (0, -a, c) = 0 from rv_zero c]; grind
    · rw [show phi 3 = -1 from rfl, em, show imT (0, -a, c) = -reT (a, 0, c) from rv_neg a c]; grind
/-- What a plate is. -/
theorem pla_val {p q k : Int} (h : dirB p q = true) (hk : inB k 0 3 = true) : ∃ w x y z : F3, ∃ C S : Rat, plaM p q k = some (w, x, y, z) ∧ okM (w, x, y, z) = true ∧ C = reT (dirC p q) ∧ S = reT (dirS p q) ∧ C * C + S * S = 1 ∧
    reT w = C * C + S * S * (phr k : Rat) ∧ imT w = S * S * (phi k : Rat) ∧ reT x = C * S - S * C * (phr k : Rat) ∧ imT x = -(S * C * (phi k : Rat)) ∧
    reT y = C * S - S * C * (phr k : Rat) ∧ imT y = -(S * C * (phi k : Rat)) ∧ reT z = S * S + C * C * (phr k : Rat) ∧ imT z = C * C * (phi k : Rat) := by
  obtain ⟨n, x, y, e1, e2, e3, n1, n2, bx, by', sq, oc, rc, zc, os, rs, zs, mc, ms⟩ := dir_val h
  obtain ⟨om, rm, im⟩ := neg_ok os zs
  obtain ⟨ou, ru, iu, u1, u2, u3, u4, uu⟩ := pha_ok k
  have ic := im0 zc
  have is := im0 zs
  have C : reT (dirC p q) = rv x n ∧ imT (dirC p q) = rv 0 n := ⟨rc, by rw [ic, rv_zero]⟩
  have S : reT (dirS p q) = rv y n ∧ imT (dirS p q) = rv 0 n := ⟨rs, by rw [is, rv_zero]⟩
  have M : reT (negT (dirS p q)) = rv (-y) n ∧ imT (negT (dirS p q)) = rv 0 n := ⟨by rw [rm, rs, rv_neg], by rw [im, rv_zero]⟩
  obtain ⟨mu, a1, a2, a3, a4⟩ := pha_times om (show (negT (dirS p q)).2.1 = 0 from rfl) hk
  obtain ⟨cu, b1, b2, b3, b4⟩ := pha_times oc zc hk
  have MU : reT mu = rv (-y * phr k) n ∧ imT mu = rv (-y * phi k) n := ⟨by rw [a3, M.1, rv_scale], by rw [a4, M.1, rv_scale]⟩
  have CU : reT cu = rv (x * phr k) n ∧ imT cu = rv (x * phi k) n := ⟨by rw [b3, C.1, rv_scale], by rw [b4, C.1, rv_scale]⟩
  have ux : ∀ {a u : Int}, -n ≤ a ∧ a ≤ n → -1 ≤ u → u ≤ 1 → -n ≤ a * u ∧ a * u ≤ n := by
    intro a u ha h1 h2
    have : u = -1 ∨ u = 0 ∨ u = 1 := by omega
    rcases this with rfl | rfl | rfl <;> omega
  have B1 := ux (a := -y) (u := phr k) (by omega) u1 u2
  have B2 := ux (a := -y) (u := phi k) (by omega) u3 u4
  have B3 := ux (a := x) (u := phr k) (by omega) u1 u2
  have B4 := ux (a := x) (u := phi k) (by omega) u3 u4
  have R := rot_some h
  have A : adjM (dirC p q, negT (dirS p q), dirS p q, dirC p q) = some (dirC p q, dirS p q, negT (dirS p q), dirC p q) := by
    rw [adjM_of (rot_ok R).2, bar_real zc, bar_real zs, bar_real (show (negT (dirS p q)).2.1 = 0 from rfl)]
  have X : mulM (dirC p q, negT (dirS p q), dirS p q, dirC p q) (diaM (phaT k)) = some (dirC p q, mu, dirS p q, cu) :=
    quad_of (inT_of (tT_one oc) (tT_zero om) (sT_zero oc)) (inT_of (tT_zero oc) a1 (sT_zero' a2)) (inT_of (tT_one os) (tT_zero oc) (sT_zero os)) (inT_of (tT_zero os) b1 (sT_zero' b2))
  obtain ⟨w1, c1, c2, c3, c4⟩ := inT_told (u := dirC p q) (v := dirC p q) (x := mu) (y := negT (dirS p q)) ⟨n1, n2⟩ oc oc a2 om (by omega) (by omega) (by omega) (by omega) C C MU M
  obtain ⟨w2, d1, d2, d3, d4⟩ := inT_told (u := dirC p q) (v := dirS p q) (x := mu) (y := dirC p q) ⟨n1, n2⟩ oc os a2 oc (by omega) (by omega) (by omega) (by omega) C S MU C
  obtain ⟨w3, f1, f2, f3, f4⟩ := inT_told (u := dirS p q) (v := dirC p q) (x := cu) (y := negT (dirS p q)) ⟨n1, n2⟩ os oc b2 om (by omega) (by omega) (by omega) (by omega) S C CU M
  obtain ⟨w4, g1, g2, g3, g4⟩ := inT_told (u := dirS p q) (v := dirS p q) (x := cu) (y := dirC p q) ⟨n1, n2⟩ os os b2 oc (by omega) (by omega) (by omega) (by omega) S S CU C
  refine ⟨w1, w2, w3, w4, reT (dirC p q), reT (dirS p q), ?_, okM_mk c2 d2 f2 g2, rfl, rfl, by rw [rc, rs]; exact sq, ?_, ?_, ?_, ?_, ?_, ?_, ?_, ?_⟩
  · unfold plaM
    rw [if_pos hk, R, Option.bind_some, A, Option.bind_some, X, Option.bind_some]
    exact quad_of c1 d1 f1 g1
  · rw [c3, a3, a4, rm, im, ic]; grind
  · rw [c4, a3, a4, rm, im, ic]; grind
  · rw [d3, a3, a4, rm, is, ic]; grind
  · rw [d4, a3, a4, rm, is, ic]; grind
  · rw [f3, b3, b4, rm, im, is, ic]; grind
  · rw [f4, b3, b4, rm, im, is, ic]; grind
  · rw [g3, b3, b4, is, ic]; grind
  · rw [g4, b3, b4, is, ic]; grind
theorem pla_some {p q k : Int} {P : F4} (h : plaM p q k = some P) : dirB p q = true ∧ inB k 0 3 = true ∧ okM P = true := by
  have hk : inB k 0 3 = true := by
    cases hk : inB k 0 3 with
    | true => rfl
    | false => unfold plaM at h; rw [if_neg (by rw [hk]; decide)] at h; cases h
  have hd : dirB p q = true := by
    cases hd : dirB p q with
    | true => rfl
    | false => unfold plaM at h; rw [if_pos hk, rot_not hd] at h; cases h
  obtain ⟨w, x, y, z, C, S, h1, h2, -⟩ := pla_val hd hk
  rw [h] at h1
  obtain rfl := (Option.some.inj h1)
  exact ⟨hd, hk, h2⟩
end Go.Proofs.YtkdkeacfifjjoabGreatDoor
