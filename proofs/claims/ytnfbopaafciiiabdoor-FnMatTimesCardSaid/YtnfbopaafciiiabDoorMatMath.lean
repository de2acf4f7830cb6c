/-
  The laws of matrices as plain mathematics: products, adjoints, determinants, what is lossless.
-/
import Derived.Test.YtnfbopaafciiiabDoorMatDef
namespace Go.Proofs.YtnfbopaafciiiabDoor
set_option linter.unusedVariables false

theorem mul_one_l {A : F4} (h : okM A = true) : mulM oneM A = some A := by
  obtain ⟨a, b, c, d⟩ := A
  obtain ⟨h1, h2, h3, h4⟩ := okM_of h
  exact quad_of (inT_of (tT_one' h1) (tT_zero' h3) (sT_zero h1)) (inT_of (tT_one' h2) (tT_zero' h4) (sT_zero h2)) (inT_of (tT_zero' h1) (tT_one' h3) (sT_zero' h3)) (inT_of (tT_zero' h2) (tT_one' h4) (sT_zero' h4))
theorem mul_one_r {A : F4} (h : okM A = true) : mulM A oneM = some A := by
  obtain ⟨a, b, c, d⟩ := A
  obtain ⟨h1, h2, h3, h4⟩ := okM_of h
  exact quad_of (inT_of (tT_one h1) (tT_zero h2) (sT_zero h1)) (inT_of (tT_zero h1) (tT_one h2) (sT_zero' h2)) (inT_of (tT_one h3) (tT_zero h4) (sT_zero h3)) (inT_of (tT_zero h3) (tT_one h4) (sT_zero' h4))
theorem scl_one {A : F4} (h : okM A = true) : sclM A (1, 0, 1) = some A := by
  obtain ⟨a, b, c, d⟩ := A
  obtain ⟨h1, h2, h3, h4⟩ := okM_of h
  exact quad_of (tT_one h1) (tT_one h2) (tT_one h3) (tT_one h4)
theorem rot_one : rotM 1 0 = some oneM := by decide
theorem mul_adj {A B C U V W X : F4} (h : mulM A B = some C) (hu : adjM A = some U) (hv : adjM B = some V) (hw : adjM C = some W) (hx : mulM V U = some X) : X = W := by
  obtain ⟨a, b, c, d⟩ := A
  obtain ⟨i, j, k, l⟩ := B
  obtain ⟨w, x, y, z⟩ := C
  obtain ⟨p, q, r, s⟩ := X
  obtain ⟨-, rfl⟩ := adjM_some hu
  obtain ⟨-, rfl⟩ := adjM_some hv
  obtain ⟨-, rfl⟩ := adjM_some hw
  obtain ⟨e1, e2, e3, e4⟩ := mulM_some h
  obtain ⟨f1, f2, f3, f4⟩ := mulM_some hx
  obtain ⟨-, -, -, -, o1, r1, i1⟩ := inT_val e1
  obtain ⟨-, -, -, -, o2, r2, i2⟩ := inT_val e2
  obtain ⟨-, -, -, -, o3, r3, i3⟩ := inT_val e3
  obtain ⟨-, -, -, -, o4, r4, i4⟩ := inT_val e4
  obtain ⟨-, -, -, -, O1, R1, I1⟩ := inT_val f1
  obtain ⟨-, -, -, -, O2, R2, I2⟩ := inT_val f2
  obtain ⟨-, -, -, -, O3, R3, I3⟩ := inT_val f3
  obtain ⟨-, -, -, -, O4, R4, I4⟩ := inT_val f4
  simp only [reT_bar, imT_bar] at R1 I1 R2 I2 R3 I3 R4 I4
  have g1 : p = barT w := uniqT O1 (by rw [okT_bar]; exact o1) (by rw [reT_bar]; grind) (by rw [imT_bar]; grind)
  have g2 : q = barT y := uniqT O2 (by rw [okT_bar]; exact o3) (by rw [reT_bar]; grind) (by rw [imT_bar]; grind)
  have g3 : r = barT x := uniqT O3 (by rw [okT_bar]; exact o2) (by rw [reT_bar]; grind) (by rw [imT_bar]; grind)
  have g4 : s = barT z := uniqT O4 (by rw [okT_bar]; exact o4) (by rw [reT_bar]; grind) (by rw [imT_bar]; grind)
  rw [g1, g2, g3, g4]
theorem mul_det {A B C : F4} {k l m n : F3} (h : mulM A B = some C) (hk : detM A = some k) (hl : detM B = some l) (hm : detM C = some m) (hn : tT k l = some n) : m = n := by
  obtain ⟨a, b, c, d⟩ := A
  obtain ⟨i, j, k', l'⟩ := B
  obtain ⟨w, x, y, z⟩ := C
  obtain ⟨e1, e2, e3, e4⟩ := mulM_some h
  obtain ⟨-, -, -, -, o1, r1, i1⟩ := inT_val e1
  obtain ⟨-, -, -, -, o2, r2, i2⟩ := inT_val e2
  obtain ⟨-, -, -, -, o3, r3, i3⟩ := inT_val e3
  obtain ⟨-, -, -, -, o4, r4, i4⟩ := inT_val e4
  obtain ⟨-, -, rk, ik⟩ := detM_val hk
  obtain ⟨-, -, rl, il⟩ := detM_val hl
  obtain ⟨-, om, rm, im⟩ := detM_val hm
  obtain ⟨-, -, on, rn, i_n⟩ := tT_val hn
  refine uniqT om on ?_ ?_
  · rw [rm, rn, rk, rl, ik, il, r1, r2, r3, r4, i1, i2, i3, i4]
    grind
  · rw [im, i_n, rk, rl, ik, il, r1, r2, r3, r4, i1, i2, i3, i4]
    grind
theorem adj_adj {A B : F4} (h : adjM A = some B) : adjM B = some A := by
  have h' := (adjM_ok h).2
  obtain ⟨a, b, c, d⟩ := A
  obtain ⟨-, rfl⟩ := adjM_some h
  rw [adjM_of h', bar_bar, bar_bar, bar_bar, bar_bar]
theorem adj_det {A B : F4} {k l : F3} (h : adjM A = some B) (hk : detM A = some k) (hl : detM B = some l) : cT k = some l := by
  obtain ⟨a, b, c, d⟩ := A
  obtain ⟨-, rfl⟩ := adjM_some h
  obtain ⟨-, ok, rk, ik⟩ := detM_val hk
  obtain ⟨-, ol, rl, il⟩ := detM_val hl
  simp only [reT_bar, imT_bar] at rl il
  rw [cT_of ok, uniqT ol (v := barT k) (by rw [okT_bar]; exact ok) (by rw [reT_bar]; grind) (by rw [imT_bar]; grind)]
/-- What is lossless, in values. -/
theorem los_val {a b c d : F3} (h : losM (a, b, c, d) = true) : okM (a, b, c, d) = true ∧
    reT a * reT a + imT a * imT a + (reT b * reT b + imT b * imT b) = 1 ∧ reT c * reT c + imT c * imT c + (reT d * reT d + imT d * imT d) = 1 ∧
    reT a * reT c + imT a * imT c + (reT b * reT d + imT b * imT d) = 0 ∧ imT a * reT c - reT a * imT c + (imT b * reT d - reT b * imT d) = 0 := by
  obtain ⟨B, h1, h2⟩ := lossM_some h
  obtain ⟨hv, rfl⟩ := adjM_some h1
  obtain ⟨e1, e2, e3, e4⟩ := mulM_some (w := (1, 0, 1)) (x := (0, 0, 1)) (y := (0, 0, 1)) (z := (1, 0, 1)) h2
  obtain ⟨-, -, -, -, -, r1, i1⟩ := inT_val e1
  obtain ⟨-, -, -, -, -, r2, i2⟩ := inT_val e2
  obtain ⟨-, -, -, -, -, r4, i4⟩ := inT_val e4
  simp only [reT_bar, imT_bar, reT_one, imT_one, reT_zero, imT_zero] at r1 i1 r2 i2 r4 i4
  exact ⟨hv, by grind, by grind, by grind, by grind⟩
/-- Lossless in values, turned over. -/
theorem los_turn {a1 a2 b1 b2 c1 c2 d1 d2 : Rat} (h1 : a1 * a1 + a2 * a2 + (b1 * b1 + b2 * b2) = 1) (h2 : c1 * c1 + c2 * c2 + (d1 * d1 + d2 * d2) = 1)
    (h3 : a1 * c1 + a2 * c2 + (b1 * d1 + b2 * d2) = 0) (h4 : a2 * c1 - a1 * c2 + (b2 * d1 - b1 * d2) = 0) :
    a1 * a1 + a2 * a2 + (c1 * c1 + c2 * c2) = 1 ∧ b1 * b1 + b2 * b2 + (d1 * d1 + d2 * d2) = 1 ∧ a1 * b1 + a2 * b2 + (c1 * d1 + c2 * d2) = 0 ∧ a1 * b2 - a2 * b1 + (c1 * d2 - c2 * d1) = 0 ∧
    (a1 * d1 - a2 * d2 - (b1 * c1 - b2 * c2)) * (a1 * d1 - a2 * d2 - (b1 * c1 - b2 * c2)) + (a1 * d2 + a2 * d1 - (b1 * c2 + b2 * c1)) * (a1 * d2 + a2 * d1 - (b1 * c2 + b2 * c1)) = 1 := by
  obtain ⟨p, hp⟩ : ∃ p, p = a1 * d1 - a2 * d2 - (b1 * c1 - b2 * c2) := ⟨_, rfl⟩
  obtain ⟨q, hq⟩ : ∃ q, q = a1 * d2 + a2 * d1 - (b1 * c2 + b2 * c1) := ⟨_, rfl⟩
  rw [← hp, ← hq]
  have L : p * p + q * q = (a1 * a1 + a2 * a2 + (b1 * b1 + b2 * b2)) * (c1 * c1 + c2 * c2 + (d1 * d1 + d2 * d2)) - ((a1 * c1 + a2 * c2 + (b1 * d1 + b2 * d2)) * (a1 * c1 + a2 * c2 + (b1 * d1 + b2 * d2)) + (a2 * c1 - a1 * c2 + (b2 * d1 - b1 * d2)) * (a2 * c1 - a1 * c2 + (b2 * d1 - b1 * d2))) := by
    rw [hp, hq]
    grind
  have D : p * p + q * q = 1 := by rw [L, h1, h2, h3, h4]; grind
  have A1 : a1 = d1 * p + d2 * q := by
    have : d1 * p + d2 * q = a1 * (c1 * c1 + c2 * c2 + (d1 * d1 + d2 * d2)) - c1 * (a1 * c1 + a2 * c2 + (b1 * d1 + b2 * d2)) + c2 * (a2 * c1 - a1 * c2 + (b2 * d1 - b1 * d2)) := by rw [hp, hq]; grind
    rw [this, h2, h3, h4]; grind
  have A2 : a2 = d1 * q - d2 * p := by
    have : d1 * q - d2 * p = a2 * (c1 * c1 + c2 * c2 + (d1 * d1 + d2 * d2)) - c2 * (a1 * c1 + a2 * c2 + (b1 * d1 + b2 * d2)) - c1 * (a2 * c1 - a1 * c2 + (b2 * d1 - b1 * d2)) := by rw [hp, hq]; grind
    rw [this, h2, h3, h4]; grind
  have B1 : b1 = -(c1 * p + c2 * q) := by
    have : c1 * p + c2 * q = d1 * (a1 * c1 + a2 * c2 + (b1 * d1 + b2 * d2)) - d2 * (a2 * c1 - a1 * c2 + (b2 * d1 - b1 * d2)) - b1 * (c1 * c1 + c2 * c2 + (d1 * d1 + d2 * d2)) := by rw [hp, hq]; grind
    rw [this, h2, h3, h4]; grind
  have B2 : b2 = -(c1 * q - c2 * p) := by
    have : c1 * q - c2 * p = d2 * (a1 * c1 + a2 * c2 + (b1 * d1 + b2 * d2)) + d1 * (a2 * c1 - a1 * c2 + (b2 * d1 - b1 * d2)) - b2 * (c1 * c1 + c2 * c2 + (d1 * d1 + d2 * d2)) := by rw [hp, hq]; grind
    rw [this, h2, h3, h4]; grind
  clear L hp hq
  have E1 : a1 * a1 + a2 * a2 = d1 * d1 + d2 * d2 := by
    have : (d1 * p + d2 * q) * (d1 * p + d2 * q) + (d1 * q - d2 * p) * (d1 * q - d2 * p) = (d1 * d1 + d2 * d2) * (p * p + q * q) := by grind
    rw [A1, A2, this, D]; grind
  have E2 : b1 * b1 + b2 * b2 = c1 * c1 + c2 * c2 := by
    have : -(c1 * p + c2 * q) * -(c1 * p + c2 * q) + -(c1 * q - c2 * p) * -(c1 * q - c2 * p) = (c1 * c1 + c2 * c2) * (p * p + q * q) := by grind
    rw [B1, B2, this, D]; grind
  have E3 : a1 * b1 + a2 * b2 = -(c1 * d1 + c2 * d2) := by
    have : (d1 * p + d2 * q) * -(c1 * p + c2 * q) + (d1 * q - d2 * p) * -(c1 * q - c2 * p) = -(c1 * d1 + c2 * d2) * (p * p + q * q) := by grind
    rw [A1, A2, B1, B2, this, D]; grind
  have E4 : a1 * b2 - a2 * b1 = -(c1 * d2 - c2 * d1) := by
    have : (d1 * p + d2 * q) * -(c1 * q - c2 * p) - (d1 * q - d2 * p) * -(c1 * p + c2 * q) = -(c1 * d2 - c2 * d1) * (p * p + q * q) := by grind
    rw [A1, A2, B1, B2, this, D]; grind
  exact ⟨by grind, by grind, by grind, by grind, D⟩
theorem los_det {A : F4} {r n : F3} (h : losM A = true) (hd : detM A = some r) (hn : powerF r.1 r.2.1 r.2.2 = some n) : n = (1, 0, 1) := by
  obtain ⟨a, b, c, d⟩ := A
  obtain ⟨-, l1, l2, l3, l4⟩ := los_val h
  obtain ⟨-, -, rr, ir⟩ := detM_val hd
  obtain ⟨n1, n2, n3⟩ := n
  obtain ⟨-, on, rn, i_n, -⟩ := power_val hn
  have t := (los_turn l1 l2 l3 l4).2.2.2.2
  refine uniqT (u := (n1, n2, n3)) on okT_one ?_ ?_
  · rw [reT_one, show reT (n1, n2, n3) = _ from rn, show rv r.1 r.2.2 = reT r from rfl, show rv r.2.1 r.2.2 = imT r from rfl, rr, ir, ← t]
  · rw [imT_one]; exact i_n
theorem los_back {A B X : F4} (h : losM A = true) (hb : adjM A = some B) (hx : mulM B A = some X) : X = oneM ∧ losM B = true := by
  have hX : X = oneM := by
    obtain ⟨a, b, c, d⟩ := A
    obtain ⟨p, q, r, s⟩ := X
    obtain ⟨-, rfl⟩ := adjM_some hb
    obtain ⟨-, l1, l2, l3, l4⟩ := los_val h
    obtain ⟨t1, t2, t3, t4, -⟩ := los_turn l1 l2 l3 l4
    obtain ⟨e1, e2, e3, e4⟩ := mulM_some hx
    obtain ⟨-, -, -, -, o1, r1, i1⟩ := inT_val e1
    obtain ⟨-, -, -, -, o2, r2, i2⟩ := inT_val e2
    obtain ⟨-, -, -, -, o3, r3, i3⟩ := inT_val e3
    obtain ⟨-, -, -, -, o4, r4, i4⟩ := inT_val e4
    simp only [reT_bar, imT_bar] at r1 i1 r2 i2 r3 i3 r4 i4
    have g1 : p = (1, 0, 1) := uniqT o1 okT_one (by rw [reT_one]; grind) (by rw [imT_one]; grind)
    have g2 : q = (0, 0, 1) := uniqT o2 okT_zero (by rw [reT_zero]; grind) (by rw [imT_zero]; grind)
    have g3 : r = (0, 0, 1) := uniqT o3 okT_zero (by rw [reT_zero]; grind) (by rw [imT_zero]; grind)
    have g4 : s = (1, 0, 1) := uniqT o4 okT_one (by rw [reT_one]; grind) (by rw [imT_one]; grind)
    rw [g1, g2, g3, g4]
    rfl
  exact ⟨hX, losM_of (adj_adj hb) (hX ▸ hx)⟩
/-- A vector's power. -/
def pT (x y : F3) : Option F3 := jpowF x.1 x.2.1 x.2.2 y.1 y.2.1 y.2.2
def nT (x y u v : F3) : Option F3 := innerF x.1 x.2.1 x.2.2 y.1 y.2.1 y.2.2 u.1 u.2.1 u.2.2 v.1 v.2.1 v.2.2
theorem pT_val {x y n : F3} (h : pT x y = some n) : okT n = true ∧ reT n = reT x * reT x + imT x * imT x + (reT y * reT y + imT y * imT y) ∧ imT n = 0 := by
  obtain ⟨n1, n2, n3⟩ := n
  obtain ⟨-, -, o, r, i, -⟩ := jpow_val h
  exact ⟨o, r, i⟩
theorem nT_val {x y u v n : F3} (h : nT x y u v = some n) : okT n = true ∧ reT n = reT x * reT u + imT x * imT u + (reT y * reT v + imT y * imT v) ∧ imT n = imT x * reT u - reT x * imT u + (imT y * reT v - reT y * imT v) := by
  obtain ⟨n1, n2, n3⟩ := n
  obtain ⟨-, -, -, -, o, r, i⟩ := inner_val h
  exact ⟨o, r, i⟩
theorem los_power {A : F4} {x y u v n m : F3} (h : losM A = true) (ha : appM A (x, y) = some (u, v)) (hn : pT u v = some n) (hm : pT x y = some m) : n = m := by
  obtain ⟨a, b, c, d⟩ := A
  obtain ⟨-, l1, l2, l3, l4⟩ := los_val h
  obtain ⟨t1, t2, t3, t4, -⟩ := los_turn l1 l2 l3 l4
  obtain ⟨e1, e2⟩ := appM_some ha
  obtain ⟨-, -, -, -, -, r1, i1⟩ := inT_val e1
  obtain ⟨-, -, -, -, -, r2, i2⟩ := inT_val e2
  obtain ⟨on, rn, i_n⟩ := pT_val hn
  obtain ⟨om, rm, im⟩ := pT_val hm
  refine uniqT on om ?_ (by rw [i_n, im])
  have : reT n = (reT x * reT x + imT x * imT x) * (reT a * reT a + imT a * imT a + (reT c * reT c + imT c * imT c)) + (reT y * reT y + imT y * imT y) * (reT b * reT b + imT b * imT b + (reT d * reT d + imT d * imT d))
      + 2 * (reT x * reT y + imT x * imT y) * (reT a * reT b + imT a * imT b + (reT c * reT d + imT c * imT d)) + 2 * (imT x * reT y - reT x * imT y) * (reT a * imT b - imT a * reT b + (reT c * imT d - imT c * reT d)) := by
    rw [rn, r1, i1, r2, i2]
    grind
  rw [this, t1, t2, t3, t4, rm]
  grind
theorem app_back {A B : F4} {x y u v n s t p : F3} (ha : appM A (x, y) = some (u, v)) (hb : adjM A = some B) (hc : appM B (u, v) = some (s, t)) (hp : nT x y s t = some p) (hn : pT u v = some n) : p = n := by
  obtain ⟨a, b, c, d⟩ := A
  obtain ⟨-, rfl⟩ := adjM_some hb
  obtain ⟨e1, e2⟩ := appM_some ha
  obtain ⟨f1, f2⟩ := appM_some hc
  obtain ⟨-, -, -, -, -, r1, i1⟩ := inT_val e1
  obtain ⟨-, -, -, -, -, r2, i2⟩ := inT_val e2
  obtain ⟨-, -, -, -, -, r3, i3⟩ := inT_val f1
  obtain ⟨-, -, -, -, -, r4, i4⟩ := inT_val f2
  simp only [reT_bar, imT_bar] at r3 i3 r4 i4
  obtain ⟨on, rn, i_n⟩ := pT_val hn
  obtain ⟨op, rp, ip⟩ := nT_val hp
  refine uniqT op on ?_ ?_
  · rw [rp, rn, r3, i3, r4, i4]
    grind
  · rw [ip, i_n, r3, i3, r4, i4]
    grind
end Go.Proofs.YtnfbopaafciiiabDoor
