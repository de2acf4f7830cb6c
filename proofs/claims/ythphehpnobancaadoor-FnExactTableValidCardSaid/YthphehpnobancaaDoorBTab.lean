/-
  Tables as plain mathematics.
-/
import Derived.Test.YthphehpnobancaaDoorBMath
namespace Go.Proofs.YthphehpnobancaaDoor
set_option linter.unusedVariables false

/-- A table: four rows. -/
abbrev F16 := F4 × F4 × F4 × F4
def rlT (u : F3) : Bool := okT u && u.2.1 == 0
def rl4 (x : F4) : Bool := rlT x.1 && rlT x.2.1 && rlT x.2.2.1 && rlT x.2.2.2
def okTb (T : F16) : Bool := rl4 T.1 && rl4 T.2.1 && rl4 T.2.2.1 && rl4 T.2.2.2
def sO (o p : Option F3) : Option F3 := o.bind fun u => p.bind fun v => sT u v
/-- A row times a column, the sums from the first product on. -/
def rowT (x y : F4) : Option F3 := sO (sO (sO (tT x.1 y.1) (tT x.2.1 y.2.1)) (tT x.2.2.1 y.2.2.1)) (tT x.2.2.2 y.2.2.2)
def quad4 (o p q r : Option F4) : Option F16 := o.bind fun a => p.bind fun b => q.bind fun c => r.bind fun d => some (a, b, c, d)
def col0 (T : F16) : F4 := (T.1.1, T.2.1.1, T.2.2.1.1, T.2.2.2.1)
def col1 (T : F16) : F4 := (T.1.2.1, T.2.1.2.1, T.2.2.1.2.1, T.2.2.2.2.1)
def col2 (T : F16) : F4 := (T.1.2.2.1, T.2.1.2.2.1, T.2.2.1.2.2.1, T.2.2.2.2.2.1)
def col3 (T : F16) : F4 := (T.1.2.2.2, T.2.1.2.2.2, T.2.2.1.2.2.2, T.2.2.2.2.2.2)
def appTb (T : F16) (s : F4) : Option F4 := if (okTb T && rl4 s) = true then quadO (rowT T.1 s) (rowT T.2.1 s) (rowT T.2.2.1 s) (rowT T.2.2.2 s) else none
def rowM (x : F4) (B : F16) : Option F4 := quadO (rowT x (col0 B)) (rowT x (col1 B)) (rowT x (col2 B)) (rowT x (col3 B))
def mulTb (A B : F16) : Option F16 := if (okTb A && okTb B) = true then quad4 (rowM A.1 B) (rowM A.2.1 B) (rowM A.2.2.1 B) (rowM A.2.2.2 B) else none
/-- A product with a mirrored fraction. -/
def cxT (u v : F3) : Option F3 := (cT v).bind fun m => tT u m
def lO (o p : Option F3) : Option F3 := o.bind fun u => p.bind fun v => lT u v
/-- The real part over a number, the imaginary part over it. -/
def reN (n : Int) (o : Option F3) : Option F3 := o.bind fun c => makeF c.1 0 (c.2.2 * n)
def imN (n : Int) (o : Option F3) : Option F3 := o.bind fun c => makeF c.2.1 0 (c.2.2 * n)
def tabM (A : F4) : Option F16 :=
  let a := A.1; let b := A.2.1; let c := A.2.2.1; let d := A.2.2.2
  if okM A = true then
    quad4
      (quadO (reN 2 (sO (sO (sO (cxT a a) (cxT b b)) (cxT c c)) (cxT d d))) (reN 2 (lO (sO (lO (cxT a a) (cxT b b)) (cxT c c)) (cxT d d))) (reN 1 (sO (cxT a b) (cxT c d))) (imN 1 (sO (cxT b a) (cxT d c))))
      (quadO (reN 2 (lO (lO (sO (cxT a a) (cxT b b)) (cxT c c)) (cxT d d))) (reN 2 (sO (lO (lO (cxT a a) (cxT b b)) (cxT c c)) (cxT d d))) (reN 1 (lO (cxT a b) (cxT c d))) (imN 1 (lO (cxT b a) (cxT d c))))
      (quadO (reN 1 (sO (cxT a c) (cxT b d))) (reN 1 (lO (cxT a c) (cxT b d))) (reN 1 (sO (cxT a d) (cxT b c))) (imN 1 (lO (cxT b c) (cxT a d))))
      (quadO (imN 1 (sO (cxT a c) (cxT b d))) (imN 1 (lO (cxT a c) (cxT b d))) (imN 1 (sO (cxT a d) (cxT b c))) (reN 1 (lO (cxT a d) (cxT b c))))
  else none
theorem rlT_ok {u : F3} (h : rlT u = true) : okT u = true ∧ imT u = 0 := by
  unfold rlT at h
  simp only [Bool.and_eq_true, beq_iff_eq] at h
  exact ⟨h.1, im0 h.2⟩
theorem rlT_of {u : F3} (h : okT u = true) (k : imT u = 0) : rlT u = true := by
  unfold rlT
  rw [h, real0 (p := u.1) (q := u.2.1) (r := u.2.2) h k]
  rfl
theorem rl4_ok {a b c d : F3} (h : rl4 (a, b, c, d) = true) : rlT a = true ∧ rlT b = true ∧ rlT c = true ∧ rlT d = true := by
  unfold rl4 at h
  simp only [Bool.and_eq_true] at h
  exact ⟨h.1.1.1, h.1.1.2, h.1.2, h.2⟩
theorem rl4_mk {a b c d : F3} (h1 : rlT a = true) (h2 : rlT b = true) (h3 : rlT c = true) (h4 : rlT d = true) : rl4 (a, b, c, d) = true := by
  unfold rl4
  simp only [h1, h2, h3, h4, Bool.and_self]
theorem sO_some {o p : Option F3} {r : F3} (h : sO o p = some r) : ∃ u v, o = some u ∧ p = some v ∧ sT u v = some r := by
  cases o with
  | none => cases h
  | some u =>
    cases p with
    | none => cases h
    | some v => exact ⟨u, v, rfl, rfl, h⟩
theorem lO_some {o p : Option F3} {r : F3} (h : lO o p = some r) : ∃ u v, o = some u ∧ p = some v ∧ lT u v = some r := by
  cases o with
  | none => cases h
  | some u =>
    cases p with
    | none => cases h
    | some v => exact ⟨u, v, rfl, rfl, h⟩
theorem cxT_val {u v w : F3} (h : cxT u v = some w) : okT u = true ∧ okT v = true ∧ okT w = true ∧ reT w = reT u * reT v + imT u * imT v ∧ imT w = imT u * reT v - reT u * imT v := by
  unfold cxT at h
  cases e : cT v with
  | none => rw [e] at h; cases h
  | some m =>
    rw [e] at h
    obtain ⟨k, rfl⟩ := cT_some e
    obtain ⟨h1, h2, h3, h4, h5⟩ := tT_val (show tT u (barT v) = some w from h)
    rw [reT_bar, imT_bar] at h4 h5
    exact ⟨h1, k, h3, by rw [h4]; grind, by rw [h5]; grind⟩
theorem rowT_val {a b c d i j k l w : F3} (h : rowT (a, b, c, d) (i, j, k, l) = some w) (ha : rl4 (a, b, c, d) = true) (hi : rl4 (i, j, k, l) = true) :
    rlT w = true ∧ reT w = reT a * reT i + reT b * reT j + reT c * reT k + reT d * reT l := by
  obtain ⟨a1, b1, c1, d1⟩ := rl4_ok ha
  obtain ⟨i1, j1, k1, l1⟩ := rl4_ok hi
  obtain ⟨s3, p4, h3, e4, h⟩ := sO_some h
  obtain ⟨s2, p3, h2, e3, h3⟩ := sO_some h3
  obtain ⟨p1, p2, e1, e2, h2⟩ := sO_some h2
  obtain ⟨-, -, o1, r1, m1⟩ := tT_val e1
  obtain ⟨-, -, o2, r2, m2⟩ := tT_val e2
  obtain ⟨-, -, o3, r3, m3⟩ := tT_val e3
  obtain ⟨-, -, o4, r4, m4⟩ := tT_val e4
  obtain ⟨-, -, q1, t1, n1⟩ := sT_val h2
  obtain ⟨-, -, q2, t2, n2⟩ := sT_val h3
  obtain ⟨-, -, q3, t3, n3⟩ := sT_val h
  have za := (rlT_ok a1).2; have zb := (rlT_ok b1).2; have zc := (rlT_ok c1).2; have zd := (rlT_ok d1).2
  have zi := (rlT_ok i1).2; have zj := (rlT_ok j1).2; have zk := (rlT_ok k1).2; have zl := (rlT_ok l1).2
  refine ⟨rlT_of q3 ?_, ?_⟩
  · rw [n3, n2, n1, m1, m2, m3, m4, za, zb, zc, zd, zi, zj, zk, zl]; grind
  · rw [t3, t2, t1, r1, r2, r3, r4, za, zb, zc, zd]; grind

theorem rv_over {x z n : Int} (hz : 1 ≤ z) (hn : 1 ≤ n) : rv x (z * n) * (n : Rat) = rv x z := by
  have h1 := ne0 hz
  have h2 := ne0 hn
  unfold rv
  have e : ((z * n : Int) : Rat) = (z : Rat) * n := by exact_mod_cast rfl
  rw [e]
  grind
theorem part_val {x : Int} {c r : F3} {n : Int} (hn : 1 ≤ n) (hc : okT c = true) (h : makeF x 0 (c.2.2 * n) = some r) : rlT r = true ∧ reT r * (n : Rat) = rv x c.2.2 := by
  have hz : 1 ≤ c.2.2 := okF_den hc
  have hd : 1 ≤ c.2.2 * n := by
    have := Int.mul_pos (show (0 : Int) < c.2.2 by omega) (show (0 : Int) < n by omega)
    omega
  unfold makeF at h
  split at h
  · obtain ⟨p, q, s⟩ := r
    obtain ⟨k, e1, e2⟩ := low_val hd h
    refine ⟨rlT_of k (by show rv q s = 0; rw [e2, rv_zero]), ?_⟩
    show rv p s * (n : Rat) = _
    rw [e1, rv_over hz hn]
  · cases h
theorem reN_val {n : Int} (hn : 1 ≤ n) {o : Option F3} {r : F3} (h : reN n o = some r) (ho : ∀ c, o = some c → okT c = true) : ∃ c, o = some c ∧ rlT r = true ∧ reT r * (n : Rat) = reT c := by
  cases o with
  | none => cases h
  | some c =>
    obtain ⟨k, e⟩ := part_val hn (ho c rfl) h
    exact ⟨c, rfl, k, e⟩
theorem imN_val {n : Int} (hn : 1 ≤ n) {o : Option F3} {r : F3} (h : imN n o = some r) (ho : ∀ c, o = some c → okT c = true) : ∃ c, o = some c ∧ rlT r = true ∧ reT r * (n : Rat) = imT c := by
  cases o with
  | none => cases h
  | some c =>
    obtain ⟨k, e⟩ := part_val hn (ho c rfl) h
    exact ⟨c, rfl, k, e⟩
theorem sO_ok {o p : Option F3} {r : F3} (h : sO o p = some r) : okT r = true := by
  obtain ⟨u, v, -, -, k⟩ := sO_some h
  exact (sT_val k).2.2.1
theorem lO_ok {o p : Option F3} {r : F3} (h : lO o p = some r) : okT r = true := by
  obtain ⟨u, v, -, -, k⟩ := lO_some h
  exact (lT_val k).2.2.1
/-- Two pairs added up, a part of them. -/
theorem two_s {u v x y r : F3} (h : reN 1 (sO (cxT u v) (cxT x y)) = some r) : rlT r = true ∧ reT r = reT u * reT v + imT u * imT v + (reT x * reT y + imT x * imT y) := by
  obtain ⟨c, e, k, f⟩ := reN_val (by omega) h (fun c => sO_ok)
  obtain ⟨m, n, e1, e2, e3⟩ := sO_some e
  obtain ⟨-, -, -, a1, -⟩ := cxT_val e1
  obtain ⟨-, -, -, a2, -⟩ := cxT_val e2
  obtain ⟨-, -, -, a3, -⟩ := sT_val e3
  refine ⟨k, ?_⟩
  have o : ((1 : Int) : Rat) = 1 := by exact_mod_cast rfl
  rw [o] at f
  grind
theorem two_l {u v x y r : F3} (h : reN 1 (lO (cxT u v) (cxT x y)) = some r) : rlT r = true ∧ reT r = reT u * reT v + imT u * imT v - (reT x * reT y + imT x * imT y) := by
  obtain ⟨c, e, k, f⟩ := reN_val (by omega) h (fun c => lO_ok)
  obtain ⟨m, n, e1, e2, e3⟩ := lO_some e
  obtain ⟨-, -, -, a1, -⟩ := cxT_val e1
  obtain ⟨-, -, -, a2, -⟩ := cxT_val e2
  obtain ⟨-, -, -, a3, -⟩ := lT_val e3
  refine ⟨k, ?_⟩
  have o : ((1 : Int) : Rat) = 1 := by exact_mod_cast rfl
  rw [o] at f
  grind
theorem two_si {u v x y r : F3} (h : imN 1 (sO (cxT u v) (cxT x y)) = some r) : rlT r = true ∧ reT r = imT u * reT v - reT u * imT v + (imT x * reT y - reT x * imT y) := by
  obtain ⟨c, e, k, f⟩ := imN_val (by omega) h (fun c => sO_ok)
  obtain ⟨m, n, e1, e2, e3⟩ := sO_some e
  obtain ⟨-, -, -, -, a1⟩ := cxT_val e1
  obtain ⟨-, -, -, -, a2⟩ := cxT_val e2
  obtain ⟨-, -, -, -, a3⟩ := sT_val e3
  refine ⟨k, ?_⟩
  have o : ((1 : Int) : Rat) = 1 := by exact_mod_cast rfl
  rw [o] at f
  grind
theorem two_li {u v x y r : F3} (h : imN 1 (lO (cxT u v) (cxT x y)) = some r) : rlT r = true ∧ reT r = imT u * reT v - reT u * imT v - (imT x * reT y - reT x * imT y) := by
  obtain ⟨c, e, k, f⟩ := imN_val (by omega) h (fun c => lO_ok)
  obtain ⟨m, n, e1, e2, e3⟩ := lO_some e
  obtain ⟨-, -, -, -, a1⟩ := cxT_val e1
  obtain ⟨-, -, -, -, a2⟩ := cxT_val e2
  obtain ⟨-, -, -, -, a3⟩ := lT_val e3
  refine ⟨k, ?_⟩
  have o : ((1 : Int) : Rat) = 1 := by exact_mod_cast rfl
  rw [o] at f
  grind
def pw (u : F3) : Rat := reT u * reT u + imT u * imT u
theorem four_1 {a b c d r : F3} (h : reN 2 (sO (sO (sO (cxT a a) (cxT b b)) (cxT c c)) (cxT d d)) = some r) : rlT r = true ∧ reT r * 2 = pw a + pw b + pw c + pw d := by
  obtain ⟨q, e, k, f⟩ := reN_val (by omega) h (fun c => sO_ok)
  obtain ⟨m, n, e1, e2, e3⟩ := sO_some e
  obtain ⟨m', n', e4, e5, e6⟩ := sO_some e1
  obtain ⟨m2, n2, e7, e8, e9⟩ := sO_some e4
  have a1 := (cxT_val e2).2.2.2.1; have a2 := (cxT_val e5).2.2.2.1; have a3 := (cxT_val e7).2.2.2.1; have a4 := (cxT_val e8).2.2.2.1
  have b1 := (sT_val e3).2.2.2.1; have b2 := (sT_val e6).2.2.2.1; have b3 := (sT_val e9).2.2.2.1
  refine ⟨k, ?_⟩
  have o : ((2 : Int) : Rat) = 2 := by exact_mod_cast rfl
  rw [o] at f
  unfold pw
  grind
theorem four_2 {a b c d r : F3} (h : reN 2 (lO (sO (lO (cxT a a) (cxT b b)) (cxT c c)) (cxT d d)) = some r) : rlT r = true ∧ reT r * 2 = pw a - pw b + pw c - pw d := by
  obtain ⟨q, e, k, f⟩ := reN_val (by omega) h (fun c => lO_ok)
  obtain ⟨m, n, e1, e2, e3⟩ := lO_some e
  obtain ⟨m', n', e4, e5, e6⟩ := sO_some e1
  obtain ⟨m2, n2, e7, e8, e9⟩ := lO_some e4
  have a1 := (cxT_val e2).2.2.2.1; have a2 := (cxT_val e5).2.2.2.1; have a3 := (cxT_val e7).2.2.2.1; have a4 := (cxT_val e8).2.2.2.1
  have b1 := (lT_val e3).2.2.2.1; have b2 := (sT_val e6).2.2.2.1; have b3 := (lT_val e9).2.2.2.1
  refine ⟨k, ?_⟩
  have o : ((2 : Int) : Rat) = 2 := by exact_mod_cast rfl
  rw [o] at f
  unfold pw
  grind
theorem four_3 {a b c d r : F3} (h : reN 2 (lO (lO (sO (cxT a a) (cxT b b)) (cxT c c)) (cxT d d)) = some r) : rlT r = true ∧ reT r * 2 = pw a + pw b - pw c - pw d := by
  obtain ⟨q, e, k, f⟩ := reN_val (by omega) h (fun c => lO_ok)
  obtain ⟨m, n, e1, e2, e3⟩ := lO_some e
  obtain ⟨m', n', e4, e5, e6⟩ := lO_some e1
  obtain ⟨m2, n2, e7, e8, e9⟩ := sO_some e4
  have a1 := (cxT_val e2).2.2.2.1; have a2 := (cxT_val e5).2.2.2.1; have a3 := (cxT_val e7).2.2.2.1; have a4 := (cxT_val e8).2.2.2.1
  have b1 := (lT_val e3).2.2.2.1; have b2 := (lT_val e6).2.2.2.1; have b3 := (sT_val e9).2.2.2.1
  refine ⟨k, ?_⟩
  have o : ((2 : Int) : Rat) = 2 := by exact_mod_cast rfl
  rw [o] at f
  unfold pw
  grind
theorem four_4 {a b c d r : F3} (h : reN 2 (sO (lO (lO (cxT a a) (cxT b b)) (cxT c c)) (cxT d d)) = some r) : rlT r = true ∧ reT r * 2 = pw a - pw b - pw c + pw d := by
  obtain ⟨q, e, k, f⟩ := reN_val (by omega) h (fun c => sO_ok)
  obtain ⟨m, n, e1, e2, e3⟩ := sO_some e
  obtain ⟨m', n', e4, e5, e6⟩ := lO_some e1
  obtain ⟨m2, n2, e7, e8, e9⟩ := lO_some e4
  have a1 := (cxT_val e2).2.2.2.1; have a2 := (cxT_val e5).2.2.2.1; have a3 := (cxT_val e7).2.2.2.1; have a4 := (cxT_val e8).2.2.2.1
  have b1 := (sT_val e3).2.2.2.1; have b2 := (lT_val e6).2.2.2.1; have b3 := (lT_val e9).2.2.2.1
  refine ⟨k, ?_⟩
  have o : ((2 : Int) : Rat) = 2 := by exact_mod_cast rfl
  rw [o] at f
  unfold pw
  grind

theorem quad4_some {o p q r : Option F4} {a b c d : F4} (h : quad4 o p q r = some (a, b, c, d)) : o = some a ∧ p = some b ∧ q = some c ∧ r = some d := by
  cases o <;> cases p <;> cases q <;> cases r <;> simp_all [quad4]
theorem okTb_mk {a b c d : F4} (h1 : rl4 a = true) (h2 : rl4 b = true) (h3 : rl4 c = true) (h4 : rl4 d = true) : okTb (a, b, c, d) = true := by
  unfold okTb
  simp only [h1, h2, h3, h4, Bool.and_self]
theorem okTb_ok {a b c d : F4} (h : okTb (a, b, c, d) = true) : rl4 a = true ∧ rl4 b = true ∧ rl4 c = true ∧ rl4 d = true := by
  unfold okTb at h
  simp only [Bool.and_eq_true] at h
  exact ⟨h.1.1.1, h.1.1.2, h.1.2, h.2⟩
/-- What the table of a matrix is worth. -/
theorem tabM_val {a b c d t00 t01 t02 t03 t10 t11 t12 t13 t20 t21 t22 t23 t30 t31 t32 t33 : F3} (h : tabM (a, b, c, d) = some ((t00, t01, t02, t03), (t10, t11, t12, t13), (t20, t21, t22, t23), (t30, t31, t32, t33))) : okM (a, b, c, d) = true ∧ okTb ((t00, t01, t02, t03), (t10, t11, t12, t13), (t20, t21, t22, t23), (t30, t31, t32, t33)) = true ∧
    reT t00 * 2 = pw a + pw b + pw c + pw d ∧ reT t01 * 2 = pw a - pw b + pw c - pw d ∧ reT t02 = (reT a * reT b + imT a * imT b) + (reT c * reT d + imT c * imT d) ∧ reT t03 = (imT b * reT a - reT b * imT a) + (imT d * reT c - reT d * imT c) ∧ reT t10 * 2 = pw a + pw b - pw c - pw d ∧ reT t11 * 2 = pw a - pw b - pw c + pw d ∧ reT t12 = (reT a * reT b + imT a * imT b) - (reT c * reT d + imT c * imT d) ∧ reT t13 = (imT b * reT a - reT b * imT a) - (imT d * reT c - reT d * imT c) ∧ reT t20 = (reT a * reT c + imT a * imT c) + (reT b * reT d + imT b * imT d) ∧ reT t21 = (reT a * reT c + imT a * imT c) - (reT b * reT d + imT b * imT d) ∧ reT t22 = (reT a * reT d + imT a * imT d) + (reT b * reT c + imT b * imT c) ∧ reT t23 = (imT b * reT c - reT b * imT c) - (imT a * reT d - reT a * imT d) ∧ reT t30 = (imT a * reT c - reT a * imT c) + (imT b * reT d - reT b * imT d) ∧ reT t31 = (imT a * reT c - reT a * imT c) - (imT b * reT d - reT b * imT d) ∧ reT t32 = (imT a * reT d - reT a * imT d) + (imT b * reT c - reT b * imT c) ∧ reT t33 = (reT a * reT d + imT a * imT d) - (reT b * reT c + imT b * imT c) := by
  unfold tabM at h
  dsimp only at h
  split at h
  · rename_i hk
    obtain ⟨r0, r1, r2, r3⟩ := quad4_some h
    obtain ⟨e00, e01, e02, e03⟩ := quad_some r0
    obtain ⟨e10, e11, e12, e13⟩ := quad_some r1
    obtain ⟨e20, e21, e22, e23⟩ := quad_some r2
    obtain ⟨e30, e31, e32, e33⟩ := quad_some r3
    obtain ⟨k00, v00⟩ := four_1 e00
    obtain ⟨k01, v01⟩ := four_2 e01
    obtain ⟨k02, v02⟩ := two_s e02
    obtain ⟨k03, v03⟩ := two_si e03
    obtain ⟨k10, v10⟩ := four_3 e10
    obtain ⟨k11, v11⟩ := four_4 e11
    obtain ⟨k12, v12⟩ := two_l e12
    obtain ⟨k13, v13⟩ := two_li e13
    obtain ⟨k20, v20⟩ := two_s e20
    obtain ⟨k21, v21⟩ := two_l e21
    obtain ⟨k22, v22⟩ := two_s e22
    obtain ⟨k23, v23⟩ := two_li e23
    obtain ⟨k30, v30⟩ := two_si e30
    obtain ⟨k31, v31⟩ := two_li e31
    obtain ⟨k32, v32⟩ := two_si e32
    obtain ⟨k33, v33⟩ := two_l e33
    exact ⟨hk, okTb_mk (rl4_mk k00 k01 k02 k03) (rl4_mk k10 k11 k12 k13) (rl4_mk k20 k21 k22 k23) (rl4_mk k30 k31 k32 k33), v00, v01, v02, v03, v10, v11, v12, v13, v20, v21, v22, v23, v30, v31, v32, v33⟩
  · cases h
theorem mulTb_val {t00 t01 t02 t03 t10 t11 t12 t13 t20 t21 t22 t23 t30 t31 t32 t33 u00 u01 u02 u03 u10 u11 u12 u13 u20 u21 u22 u23 u30 u31 u32 u33 x00 x01 x02 x03 x10 x11 x12 x13 x20 x21 x22 x23 x30 x31 x32 x33 : F3} (h : mulTb ((t00, t01, t02, t03), (t10, t11, t12, t13), (t20, t21, t22, t23), (t30, t31, t32, t33)) ((u00, u01, u02, u03), (u10, u11, u12, u13), (u20, u21, u22, u23), (u30, u31, u32, u33)) = some ((x00, x01, x02, x03), (x10, x11, x12, x13), (x20, x21, x22, x23), (x30, x31, x32, x33))) : okTb ((t00, t01, t02, t03), (t10, t11, t12, t13), (t20, t21, t22, t23), (t30, t31, t32, t33)) = true ∧ okTb ((u00, u01, u02, u03), (u10, u11, u12, u13), (u20, u21, u22, u23), (u30, u31, u32, u33)) = true ∧ okTb ((x00, x01, x02, x03), (x10, x11, x12, x13), (x20, x21, x22, x23), (x30, x31, x32, x33)) = true ∧
    reT x00 = reT t00 * reT u00 + reT t01 * reT u10 + reT t02 * reT u20 + reT t03 * reT u30 ∧ reT x01 = reT t00 * reT u01 + reT t01 * reT u11 + reT t02 * reT u21 + reT t03 * reT u31 ∧ reT x02 = reT t00 * reT u02 + reT t01 * reT u12 + reT t02 * reT u22 + reT t03 * reT u32 ∧ reT x03 = reT t00 * reT u03 + reT t01 * reT u13 + reT t02 * reT u23 + reT t03 * reT u33 ∧ reT x10 = reT t10 * reT u00 + reT t11 * reT u10 + reT t12 * reT u20 + reT t13 * reT u30 ∧ reT x11 = reT t10 * reT u01 + reT t11 * reT u11 + reT t12 * reT u21 + reT t13 * reT u31 ∧ reT x12 = reT t10 * reT u02 + reT t11 * reT u12 + reT t12 * reT u22 + reT t13 * reT u32 ∧ reT x13 = reT t10 * reT u03 + reT t11 * reT u13 + reT t12 * reT u23 + reT t13 * reT u33 ∧ reT x20 = reT t20 * reT u00 + reT t21 * reT u10 + reT t22 * reT u20 + reT t23 * reT u30 ∧ reT x21 = reT t20 * reT u01 + reT t21 * reT u11 + reT t22 * reT u21 + reT t23 * reT u31 ∧ reT x22 = reT t20 * reT u02 + reT t21 * reT u12 + reT t22 * reT u22 + reT t23 * reT u32 ∧ reT x23 = reT t20 * reT u03 + reT t21 * reT u13 + reT t22 * reT u23 + reT t23 * reT u33 ∧ reT x30 = reT t30 * reT u00 + reT t31 * reT u10 + reT t32 * reT u20 + reT t33 * reT u30 ∧ reT x31 = reT t30 * reT u01 + reT t31 * reT u11 + reT t32 * reT u21 + reT t33 * reT u31 ∧ reT x32 = reT t30 * reT u02 + reT t31 * reT u12 + reT t32 * reT u22 + reT t33 * reT u32 ∧ reT x33 = reT t30 * reT u03 + reT t31 * reT u13 + reT t32 * reT u23 + reT t33 * reT u33 := by
  unfold mulTb at h
  split at h
  · rename_i hk
    simp only [Bool.and_eq_true] at hk
    obtain ⟨ha, hb⟩ := hk
    obtain ⟨r0, r1, r2, r3⟩ := quad4_some h
    obtain ⟨a0, a1, a2, a3⟩ := okTb_ok ha
    obtain ⟨b0, b1, b2, b3⟩ := okTb_ok hb
    obtain ⟨y00, y01, y02, y03⟩ := rl4_ok b0
    obtain ⟨y10, y11, y12, y13⟩ := rl4_ok b1
    obtain ⟨y20, y21, y22, y23⟩ := rl4_ok b2
    obtain ⟨y30, y31, y32, y33⟩ := rl4_ok b3
    have c0 : rl4 (u00, u10, u20, u30) = true := rl4_mk y00 y10 y20 y30
    have c1 : rl4 (u01, u11, u21, u31) = true := rl4_mk y01 y11 y21 y31
    have c2 : rl4 (u02, u12, u22, u32) = true := rl4_mk y02 y12 y22 y32
    have c3 : rl4 (u03, u13, u23, u33) = true := rl4_mk y03 y13 y23 y33
    obtain ⟨e00, e01, e02, e03⟩ := quad_some r0
    obtain ⟨e10, e11, e12, e13⟩ := quad_some r1
    obtain ⟨e20, e21, e22, e23⟩ := quad_some r2
    obtain ⟨e30, e31, e32, e33⟩ := quad_some r3
    obtain ⟨k00, v00⟩ := rowT_val e00 a0 c0
    obtain ⟨k01, v01⟩ := rowT_val e01 a0 c1
    obtain ⟨k02, v02⟩ := rowT_val e02 a0 c2
    obtain ⟨k03, v03⟩ := rowT_val e03 a0 c3
    obtain ⟨k10, v10⟩ := rowT_val e10 a1 c0
    obtain ⟨k11, v11⟩ := rowT_val e11 a1 c1
    obtain ⟨k12, v12⟩ := rowT_val e12 a1 c2
    obtain ⟨k13, v13⟩ := rowT_val e13 a1 c3
    obtain ⟨k20, v20⟩ := rowT_val e20 a2 c0
    obtain ⟨k21, v21⟩ := rowT_val e21 a2 c1
    obtain ⟨k22, v22⟩ := rowT_val e22 a2 c2
    obtain ⟨k23, v23⟩ := rowT_val e23 a2 c3
    obtain ⟨k30, v30⟩ := rowT_val e30 a3 c0
    obtain ⟨k31, v31⟩ := rowT_val e31 a3 c1
    obtain ⟨k32, v32⟩ := rowT_val e32 a3 c2
    obtain ⟨k33, v33⟩ := rowT_val e33 a3 c3
    exact ⟨ha, hb, okTb_mk (rl4_mk k00 k01 k02 k03) (rl4_mk k10 k11 k12 k13) (rl4_mk k20 k21 k22 k23) (rl4_mk k30 k31 k32 k33), v00, v01, v02, v03, v10, v11, v12, v13, v20, v21, v22, v23, v30, v31, v32, v33⟩
  · cases h
theorem rl_eq {u v : F3} (h : rlT u = true) (k : rlT v = true) (e : reT u = reT v) : u = v := uniqT (rlT_ok h).1 (rlT_ok k).1 e ((rlT_ok h).2.trans (rlT_ok k).2.symm)
set_option maxHeartbeats 4000000 in
/-- Tables of products are products of tables. -/
theorem tab_prod {A B C : F4} {TA TB TC TX : F16} (h : mulM A B = some C) (ha : tabM A = some TA) (hb : tabM B = some TB) (hc : tabM C = some TC) (hx : mulTb TA TB = some TX) : TX = TC := by
  obtain ⟨a, b, c, d⟩ := A
  obtain ⟨i, j, k, l⟩ := B
  obtain ⟨p, q, r, s⟩ := C
  obtain ⟨⟨t00, t01, t02, t03⟩, ⟨t10, t11, t12, t13⟩, ⟨t20, t21, t22, t23⟩, ⟨t30, t31, t32, t33⟩⟩ := TA
  obtain ⟨⟨u00, u01, u02, u03⟩, ⟨u10, u11, u12, u13⟩, ⟨u20, u21, u22, u23⟩, ⟨u30, u31, u32, u33⟩⟩ := TB
  obtain ⟨⟨s00, s01, s02, s03⟩, ⟨s10, s11, s12, s13⟩, ⟨s20, s21, s22, s23⟩, ⟨s30, s31, s32, s33⟩⟩ := TC
  obtain ⟨⟨x00, x01, x02, x03⟩, ⟨x10, x11, x12, x13⟩, ⟨x20, x21, x22, x23⟩, ⟨x30, x31, x32, x33⟩⟩ := TX
  obtain ⟨m1, m2, m3, m4⟩ := mulM_some h
  obtain ⟨-, -, -, -, -, f1, g1⟩ := inT_val m1
  obtain ⟨-, -, -, -, -, f2, g2⟩ := inT_val m2
  obtain ⟨-, -, -, -, -, f3, g3⟩ := inT_val m3
  obtain ⟨-, -, -, -, -, f4, g4⟩ := inT_val m4
  obtain ⟨-, -, v00, v01, v02, v03, v10, v11, v12, v13, v20, v21, v22, v23, v30, v31, v32, v33⟩ := tabM_val ha
  obtain ⟨-, -, w00, w01, w02, w03, w10, w11, w12, w13, w20, w21, w22, w23, w30, w31, w32, w33⟩ := tabM_val hb
  obtain ⟨-, oc, z00, z01, z02, z03, z10, z11, z12, z13, z20, z21, z22, z23, z30, z31, z32, z33⟩ := tabM_val hc
  obtain ⟨-, -, ox, y00, y01, y02, y03, y10, y11, y12, y13, y20, y21, y22, y23, y30, y31, y32, y33⟩ := mulTb_val hx
  obtain ⟨c0, c1, c2, c3⟩ := okTb_ok oc
  obtain ⟨x0, x1, x2, x3⟩ := okTb_ok ox
  obtain ⟨c00, c01, c02, c03⟩ := rl4_ok c0
  obtain ⟨d00, d01, d02, d03⟩ := rl4_ok x0
  obtain ⟨c10, c11, c12, c13⟩ := rl4_ok c1
  obtain ⟨d10, d11, d12, d13⟩ := rl4_ok x1
  obtain ⟨c20, c21, c22, c23⟩ := rl4_ok c2
  obtain ⟨d20, d21, d22, d23⟩ := rl4_ok x2
  obtain ⟨c30, c31, c32, c33⟩ := rl4_ok c3
  obtain ⟨d30, d31, d32, d33⟩ := rl4_ok x3
  unfold pw at *
  obtain rfl : x00 = s00 := rl_eq d00 c00 (by clear v10 v11 v12 v13 v20 v21 v22 v23 v30 v31 v32 v33 w01 w02 w03 w11 w12 w13 w21 w22 w23 w31 w32 w33; clear y01 y02 y03 y10 y11 y12 y13 y20 y21 y22 y23 y30 y31 y32 y33 z01 z02 z03 z10 z11 z12 z13 z20 z21 z22 z23 z30 z31 z32 z33; grind)
  obtain rfl : x01 = s01 := rl_eq d01 c01 (by clear v10 v11 v12 v13 v20 v21 v22 v23 v30 v31 v32 v33 w00 w02 w03 w10 w12 w13 w20 w22 w23 w30 w32 w33; clear y00 y02 y03 y10 y11 y12 y13 y20 y21 y22 y23 y30 y31 y32 y33 z00 z02 z03 z10 z11 z12 z13 z20 z21 z22 z23 z30 z31 z32 z33; grind)
  obtain rfl : x02 = s02 := rl_eq d02 c02 (by clear v10 v11 v12 v13 v20 v21 v22 v23 v30 v31 v32 v33 w00 w01 w03 w10 w11 w13 w20 w21 w23 w30 w31 w33; clear y00 y01 y03 y10 y11 y12 y13 y20 y21 y22 y23 y30 y31 y32 y33 z00 z01 z03 z10 z11 z12 z13 z20 z21 z22 z23 z30 z31 z32 z33; grind)
  obtain rfl : x03 = s03 := rl_eq d03 c03 (by clear v10 v11 v12 v13 v20 v21 v22 v23 v30 v31 v32 v33 w00 w01 w02 w10 w11 w12 w20 w21 w22 w30 w31 w32; clear y00 y01 y02 y10 y11 y12 y13 y20 y21 y22 y23 y30 y31 y32 y33 z00 z01 z02 z10 z11 z12 z13 z20 z21 z22 z23 z30 z31 z32 z33; grind)
  obtain rfl : x10 = s10 := rl_eq d10 c10 (by clear v00 v01 v02 v03 v20 v21 v22 v23 v30 v31 v32 v33 w01 w02 w03 w11 w12 w13 w21 w22 w23 w31 w32 w33; clear y00 y01 y02 y03 y11 y12 y13 y20 y21 y22 y23 y30 y31 y32 y33 z00 z01 z02 z03 z11 z12 z13 z20 z21 z22 z23 z30 z31 z32 z33; grind)
  obtain rfl : x11 = s11 := rl_eq d11 c11 (by clear v00 v01 v02 v03 v20 v21 v22 v23 v30 v31 v32 v33 w00 w02 w03 w10 w12 w13 w20 w22 w23 w30 w32 w33; clear y00 y01 y02 y03 y10 y12 y13 y20 y21 y22 y23 y30 y31 y32 y33 z00 z01 z02 z03 z10 z12 z13 z20 z21 z22 z23 z30 z31 z32 z33; grind)
  obtain rfl : x12 = s12 := rl_eq d12 c12 (by clear v00 v01 v02 v03 v20 v21 v22 v23 v30 v31 v32 v33 w00 w01 w03 w10 w11 w13 w20 w21 w23 w30 w31 w33; clear y00 y01 y02 y03 y10 y11 y13 y20 y21 y22 y23 y30 y31 y32 y33 z00 z01 z02 z03 z10 z11 z13 z20 z21 z22 z23 z30 z31 z32 z33; grind)
  obtain rfl : x13 = s13 := rl_eq d13 c13 (by clear v00 v01 v02 v03 v20 v21 v22 v23 v30 v31 v32 v33 w00 w01 w02 w10 w11 w12 w20 w21 w22 w30 w31 w32; clear y00 y01 y02 y03 y10 y11 y12 y20 y21 y22 y23 y30 y31 y32 y33 z00 z01 z02 z03 z10 z11 z12 z20 z21 z22 z23 z30 z31 z32 z33; grind)
  obtain rfl : x20 = s20 := rl_eq d20 c20 (by clear v00 v01 v02 v03 v10 v11 v12 v13 v30 v31 v32 v33 w01 w02 w03 w11 w12 w13 w21 w22 w23 w31 w32 w33; clear y00 y01 y02 y03 y10 y11 y12 y13 y21 y22 y23 y30 y31 y32 y33 z00 z01 z02 z03 z10 z11 z12 z13 z21 z22 z23 z30 z31 z32 z33; grind)
  obtain rfl : x21 = s21 := rl_eq d21 c21 (by clear v00 v01 v02 v03 v10 v11 v12 v13 v30 v31 v32 v33 w00 w02 w03 w10 w12 w13 w20 w22 w23 w30 w32 w33; clear y00 y01 y02 y03 y10 y11 y12 y13 y20 y22 y23 y30 y31 y32 y33 z00 z01 z02 z03 z10 z11 z12 z13 z20 z22 z23 z30 z31 z32 z33; grind)
  obtain rfl : x22 = s22 := rl_eq d22 c22 (by clear v00 v01 v02 v03 v10 v11 v12 v13 v30 v31 v32 v33 w00 w01 w03 w10 w11 w13 w20 w21 w23 w30 w31 w33; clear y00 y01 y02 y03 y10 y11 y12 y13 y20 y21 y23 y30 y31 y32 y33 z00 z01 z02 z03 z10 z11 z12 z13 z20 z21 z23 z30 z31 z32 z33; grind)
  obtain rfl : x23 = s23 := rl_eq d23 c23 (by clear v00 v01 v02 v03 v10 v11 v12 v13 v30 v31 v32 v33 w00 w01 w02 w10 w11 w12 w20 w21 w22 w30 w31 w32; clear y00 y01 y02 y03 y10 y11 y12 y13 y20 y21 y22 y30 y31 y32 y33 z00 z01 z02 z03 z10 z11 z12 z13 z20 z21 z22 z30 z31 z32 z33; grind)
  obtain rfl : x30 = s30 := rl_eq d30 c30 (by clear v00 v01 v02 v03 v10 v11 v12 v13 v20 v21 v22 v23 w01 w02 w03 w11 w12 w13 w21 w22 w23 w31 w32 w33; clear y00 y01 y02 y03 y10 y11 y12 y13 y20 y21 y22 y23 y31 y32 y33 z00 z01 z02 z03 z10 z11 z12 z13 z20 z21 z22 z23 z31 z32 z33; grind)
  obtain rfl : x31 = s31 := rl_eq d31 c31 (by clear v00 v01 v02 v03 v10 v11 v12 v13 v20 v21 v22 v23 w00 w02 w03 w10 w12 w13 w20 w22 w23 w30 w32 w33; clear y00 y01 y02 y03 y10 y11 y12 y13 y20 y21 y22 y23 y30 y32 y33 z00 z01 z02 z03 z10 z11 z12 z13 z20 z21 z22 z23 z30 z32 z33; grind)
  obtain rfl : x32 = s32 := rl_eq d32 c32 (by clear v00 v01 v02 v03 v10 v11 v12 v13 v20 v21 v22 v23 w00 w01 w03 w10 w11 w13 w20 w21 w23 w30 w31 w33; clear y00 y01 y02 y03 y10 y11 y12 y13 y20 y21 y22 y23 y30 y31 y33 z00 z01 z02 z03 z10 z11 z12 z13 z20 z21 z22 z23 z30 z31 z33; grind)
  obtain rfl : x33 = s33 := rl_eq d33 c33 (by clear v00 v01 v02 v03 v10 v11 v12 v13 v20 v21 v22 v23 w00 w01 w02 w10 w11 w12 w20 w21 w22 w30 w31 w32; clear y00 y01 y02 y03 y10 y11 y12 y13 y20 y21 y22 y23 y30 y31 y32 z00 z01 z02 z03 z10 z11 z12 z13 z20 z21 z22 z23 z30 z31 z32; grind)
  rfl

def sofT (x y : F3) : Option F4 := sofF x.1 x.2.1 x.2.2 y.1 y.2.1 y.2.2
theorem sofT_val {x y s t u v : F3} (h : sofT x y = some (s, t, u, v)) : rl4 (s, t, u, v) = true ∧ okT x = true ∧ okT y = true ∧
    reT s = pw x + pw y ∧ reT t = pw x - pw y ∧ reT u = 2 * (reT x * reT y + imT x * imT y) ∧ reT v = 2 * (imT x * reT y - reT x * imT y) := by
  obtain ⟨x1, x2, x3⟩ := x
  obtain ⟨y1, y2, y3⟩ := y
  obtain ⟨s1, s2, s3⟩ := s
  obtain ⟨t1, t2, t3⟩ := t
  obtain ⟨u1, u2, u3⟩ := u
  obtain ⟨v1, v2, v3⟩ := v
  obtain ⟨⟨a1, rfl, a2, rfl, a3, rfl, a4, rfl⟩, k1, k2, e1, e2, e3, e4⟩ := sof_val h
  exact ⟨rl4_mk (rlT_of a1 (rv_zero _)) (rlT_of a2 (rv_zero _)) (rlT_of a3 (rv_zero _)) (rlT_of a4 (rv_zero _)), k1, k2, e1, e2, e3, e4⟩
theorem appTb_val {t00 t01 t02 t03 t10 t11 t12 t13 t20 t21 t22 t23 t30 t31 t32 t33 s0 s1 s2 s3 x0 x1 x2 x3 : F3} (h : appTb ((t00, t01, t02, t03), (t10, t11, t12, t13), (t20, t21, t22, t23), (t30, t31, t32, t33)) (s0, s1, s2, s3) = some (x0, x1, x2, x3)) : okTb ((t00, t01, t02, t03), (t10, t11, t12, t13), (t20, t21, t22, t23), (t30, t31, t32, t33)) = true ∧ rl4 (s0, s1, s2, s3) = true ∧ rl4 (x0, x1, x2, x3) = true ∧
    reT x0 = reT t00 * reT s0 + reT t01 * reT s1 + reT t02 * reT s2 + reT t03 * reT s3 ∧ reT x1 = reT t10 * reT s0 + reT t11 * reT s1 + reT t12 * reT s2 + reT t13 * reT s3 ∧ reT x2 = reT t20 * reT s0 + reT t21 * reT s1 + reT t22 * reT s2 + reT t23 * reT s3 ∧ reT x3 = reT t30 * reT s0 + reT t31 * reT s1 + reT t32 * reT s2 + reT t33 * reT s3 := by
  unfold appTb at h
  split at h
  · rename_i hk
    simp only [Bool.and_eq_true] at hk
    obtain ⟨ha, hb⟩ := hk
    obtain ⟨e0, e1, e2, e3⟩ := quad_some h
    obtain ⟨a0, a1, a2, a3⟩ := okTb_ok ha
    obtain ⟨k0, v0⟩ := rowT_val e0 a0 hb
    obtain ⟨k1, v1⟩ := rowT_val e1 a1 hb
    obtain ⟨k2, v2⟩ := rowT_val e2 a2 hb
    obtain ⟨k3, v3⟩ := rowT_val e3 a3 hb
    exact ⟨ha, hb, rl4_mk k0 k1 k2 k3, v0, v1, v2, v3⟩
  · cases h
theorem appM_val {a b c d x y p q : F3} (h : appM (a, b, c, d) (x, y) = some (p, q)) :
    reT p = reT a * reT x - imT a * imT x + (reT b * reT y - imT b * imT y) ∧ imT p = reT a * imT x + imT a * reT x + (reT b * imT y + imT b * reT y) ∧
    reT q = reT c * reT x - imT c * imT x + (reT d * reT y - imT d * imT y) ∧ imT q = reT c * imT x + imT c * reT x + (reT d * imT y + imT d * reT y) := by
  obtain ⟨e1, e2⟩ := appM_some h
  obtain ⟨-, -, -, -, -, f1, g1⟩ := inT_val e1
  obtain ⟨-, -, -, -, -, f2, g2⟩ := inT_val e2
  exact ⟨f1, g1, f2, g2⟩
set_option maxHeartbeats 4000000 in
/-- Tables do to four numbers what matrices do to vectors. -/
theorem tab_of {A : F4} {TA : F16} {u v p q : F3} {Sv X Y : F4} (h : tabM A = some TA) (hs : sofT u v = some Sv) (hx : appTb TA Sv = some X) (hw : appM A (u, v) = some (p, q)) (hy : sofT p q = some Y) : X = Y := by
  obtain ⟨a, b, c, d⟩ := A
  obtain ⟨⟨t00, t01, t02, t03⟩, ⟨t10, t11, t12, t13⟩, ⟨t20, t21, t22, t23⟩, ⟨t30, t31, t32, t33⟩⟩ := TA
  obtain ⟨s0, s1, s2, s3⟩ := Sv
  obtain ⟨x0, x1, x2, x3⟩ := X
  obtain ⟨y0, y1, y2, y3⟩ := Y
  obtain ⟨-, -, v00, v01, v02, v03, v10, v11, v12, v13, v20, v21, v22, v23, v30, v31, v32, v33⟩ := tabM_val h
  obtain ⟨-, -, -, a0, a1, a2, a3⟩ := sofT_val hs
  obtain ⟨-, -, ox, b0, b1, b2, b3⟩ := appTb_val hx
  obtain ⟨f1, g1, f2, g2⟩ := appM_val hw
  obtain ⟨oy, -, -, c0, c1, c2, c3⟩ := sofT_val hy
  obtain ⟨x0', x1', x2', x3'⟩ := rl4_ok ox
  obtain ⟨y0', y1', y2', y3'⟩ := rl4_ok oy
  unfold pw at *
  obtain rfl : x0 = y0 := rl_eq x0' y0' (by clear v10 v11 v12 v13 v20 v21 v22 v23 v30 v31 v32 v33 b1 c1 b2 c2 b3 c3; grind)
  obtain rfl : x1 = y1 := rl_eq x1' y1' (by clear v00 v01 v02 v03 v20 v21 v22 v23 v30 v31 v32 v33 b0 c0 b2 c2 b3 c3; grind)
  obtain rfl : x2 = y2 := rl_eq x2' y2' (by clear v00 v01 v02 v03 v10 v11 v12 v13 v30 v31 v32 v33 b0 c0 b1 c1 b3 c3; grind)
  obtain rfl : x3 = y3 := rl_eq x3' y3' (by clear v00 v01 v02 v03 v10 v11 v12 v13 v20 v21 v22 v23 b0 c0 b1 c1 b2 c2; grind)
  rfl
end Go.Proofs.YthphehpnobancaaDoor
