/-
  Fractions as triples: what sums and products are worth, told by values; pairs and fours of them.
-/
import Derived.Test.YtnfbopaafciiiaaDoorStokesDef2
import Derived.Test.YtnfbopaafciiiaaDoorStokesMath
namespace Go.Proofs.YtnfbopaafciiiaaDoor
set_option linter.unusedVariables false

/-- A fraction's three numbers. -/
abbrev F3 := Int × Int × Int
abbrev F4 := F3 × F3 × F3 × F3
def okT (u : F3) : Bool := okF u.1 u.2.1 u.2.2
def reT (u : F3) : Rat := rv u.1 u.2.2
def imT (u : F3) : Rat := rv u.2.1 u.2.2
def tT (u v : F3) : Option F3 := timesF u.1 u.2.1 u.2.2 v.1 v.2.1 v.2.2
def sT (u v : F3) : Option F3 := addF u.1 u.2.1 u.2.2 v.1 v.2.1 v.2.2
def lT (u v : F3) : Option F3 := lessF u.1 u.2.1 u.2.2 v.1 v.2.1 v.2.2
def cT (u : F3) : Option F3 := mirrorF u.1 u.2.1 u.2.2
/-- A fraction mirrored. -/
def barT (u : F3) : F3 := (u.1, -u.2.1, u.2.2)
theorem uniqT {u v : F3} (h : okT u = true) (k : okT v = true) (e : reT u = reT v) (f : imT u = imT v) : u = v := by
  obtain ⟨u1, u2, u3⟩ := u
  obtain ⟨v1, v2, v3⟩ := v
  exact uniqV h k e f
theorem tT_val {u v w : F3} (h : tT u v = some w) : okT u = true ∧ okT v = true ∧ okT w = true ∧ reT w = reT u * reT v - imT u * imT v ∧ imT w = reT u * imT v + imT u * reT v := by
  obtain ⟨w1, w2, w3⟩ := w
  exact times_val h
theorem tT_of {u v w : F3} (h1 : okT u = true) (h2 : okT v = true) (h3 : okT w = true) (e : reT w = reT u * reT v - imT u * imT v) (f : imT w = reT u * imT v + imT u * reT v) : tT u v = some w := by
  obtain ⟨w1, w2, w3⟩ := w
  exact times_ofV h1 h2 h3 e f
theorem sT_val {u v w : F3} (h : sT u v = some w) : okT u = true ∧ okT v = true ∧ okT w = true ∧ reT w = reT u + reT v ∧ imT w = imT u + imT v := by
  obtain ⟨w1, w2, w3⟩ := w
  exact sum_val h
theorem sT_of {u v w : F3} (h1 : okT u = true) (h2 : okT v = true) (h3 : okT w = true) (e : reT w = reT u + reT v) (f : imT w = imT u + imT v) : sT u v = some w := by
  obtain ⟨w1, w2, w3⟩ := w
  exact sum_ofV h1 h2 h3 e f
theorem lT_val {u v w : F3} (h : lT u v = some w) : okT u = true ∧ okT v = true ∧ okT w = true ∧ reT w = reT u - reT v ∧ imT w = imT u - imT v := by
  obtain ⟨w1, w2, w3⟩ := w
  exact less_val h
theorem less_ofV {x y z a b c p q r : Int} (h1 : okF x y z = true) (h2 : okF a b c = true) (h3 : okF p q r = true) (e1 : rv p r = rv x z - rv a c) (e2 : rv q r = rv y z - rv b c) : sumF (-1) x y z a b c = some (p, q, r) := by
  have hz := ne0 (okF_den h1)
  have hc := ne0 (okF_den h2)
  have hr := ne0 (okF_den h3)
  unfold rv at e1 e2
  refine sum_of h1 h2 h3 ?_ ?_
  · have : (p : Rat) * (z * c) = (x * c - a * z) * r := by grind
    have k : p * (z * c) = (x * c - a * z) * r := by exact_mod_cast this
    rw [k]; grind
  · have : (q : Rat) * (z * c) = (y * c - b * z) * r := by grind
    have k : q * (z * c) = (y * c - b * z) * r := by exact_mod_cast this
    rw [k]; grind
theorem lT_of {u v w : F3} (h1 : okT u = true) (h2 : okT v = true) (h3 : okT w = true) (e : reT w = reT u - reT v) (f : imT w = imT u - imT v) : lT u v = some w := by
  obtain ⟨w1, w2, w3⟩ := w
  exact less_ofV h1 h2 h3 e f
theorem okT_bar (u : F3) : okT (barT u) = okT u := okF_neg1 _ _ _
theorem reT_bar (u : F3) : reT (barT u) = reT u := rfl
theorem imT_bar (u : F3) : imT (barT u) = -imT u := rv_neg _ _
theorem bar_bar (u : F3) : barT (barT u) = u := by
  obtain ⟨a, b, c⟩ := u
  simp [barT]
theorem cT_some {u v : F3} (h : cT u = some v) : okT u = true ∧ v = barT u := by
  unfold cT mirrorF at h
  split at h
  · rename_i hk
    exact ⟨hk, (Option.some.inj h).symm⟩
  · cases h
theorem cT_of {u : F3} (h : okT u = true) : cT u = some (barT u) := by
  unfold cT mirrorF
  rw [if_pos (show okF u.1 u.2.1 u.2.2 = true from h)]
  rfl
theorem cT_not {u : F3} (h : okT u = false) : cT u = none := by
  unfold cT mirrorF
  rw [if_neg (by rw [show okF u.1 u.2.1 u.2.2 = false from h]; decide)]
theorem tT_not1 {u v : F3} (h : okT u = false) : tT u v = none := by
  cases e : tT u v with
  | none => rfl
  | some w => rw [(tT_val e).1] at h; cases h
theorem tT_not2 {u v : F3} (h : okT v = false) : tT u v = none := by
  cases e : tT u v with
  | none => rfl
  | some w => rw [(tT_val e).2.1] at h; cases h
/-- Two products added up. -/
def inT (u v x y : F3) : Option F3 := innF u.1 u.2.1 u.2.2 v.1 v.2.1 v.2.2 x.1 x.2.1 x.2.2 y.1 y.2.1 y.2.2
theorem inT_some {u v x y w : F3} (h : inT u v x y = some w) : ∃ m n, tT u v = some m ∧ tT x y = some n ∧ sT m n = some w := by
  obtain ⟨u1, u2, u3, v1, v2, v3, h1, h2, h3⟩ := addO_some h
  exact ⟨(u1, u2, u3), (v1, v2, v3), h1, h2, h3⟩
theorem inT_of {u v x y m n w : F3} (h1 : tT u v = some m) (h2 : tT x y = some n) (h3 : sT m n = some w) : inT u v x y = some w := by
  obtain ⟨u1, u2, u3⟩ := m
  obtain ⟨v1, v2, v3⟩ := n
  exact addO_of h1 h2 h3
theorem inT_val {u v x y w : F3} (h : inT u v x y = some w) : okT u = true ∧ okT v = true ∧ okT x = true ∧ okT y = true ∧ okT w = true ∧
    reT w = reT u * reT v - imT u * imT v + (reT x * reT y - imT x * imT y) ∧ imT w = reT u * imT v + imT u * reT v + (reT x * imT y + imT x * reT y) := by
  obtain ⟨m, n, h1, h2, h3⟩ := inT_some h
  obtain ⟨a1, a2, a3, a4, a5⟩ := tT_val h1
  obtain ⟨b1, b2, b3, b4, b5⟩ := tT_val h2
  obtain ⟨c1, c2, c3, c4, c5⟩ := sT_val h3
  exact ⟨a1, a2, b1, b2, c3, by rw [c4, a4, b4], by rw [c5, a5, b5]⟩
theorem okT_zero : okT (0, 0, 1) = true := by decide
theorem okT_one : okT (1, 0, 1) = true := by decide
theorem reT_zero : reT (0, 0, 1) = 0 := rv_zero 1
theorem imT_zero : imT (0, 0, 1) = 0 := rv_zero 1
theorem reT_one : reT (1, 0, 1) = 1 := rv_one 1
theorem imT_one : imT (1, 0, 1) = 0 := rv_zero 1
theorem tT_one {u : F3} (h : okT u = true) : tT u (1, 0, 1) = some u := tT_of h okT_one h (by rw [reT_one, imT_one]; grind) (by rw [reT_one, imT_one]; grind)
theorem tT_one' {u : F3} (h : okT u = true) : tT (1, 0, 1) u = some u := tT_of okT_one h h (by rw [reT_one, imT_one]; grind) (by rw [reT_one, imT_one]; grind)
theorem tT_zero {u : F3} (h : okT u = true) : tT u (0, 0, 1) = some (0, 0, 1) := tT_of h okT_zero okT_zero (by rw [reT_zero, imT_zero]; grind) (by rw [reT_zero, imT_zero]; grind)
theorem tT_zero' {u : F3} (h : okT u = true) : tT (0, 0, 1) u = some (0, 0, 1) := tT_of okT_zero h okT_zero (by rw [reT_zero, imT_zero]; grind) (by rw [reT_zero, imT_zero]; grind)
theorem sT_zero {u : F3} (h : okT u = true) : sT u (0, 0, 1) = some u := sT_of h okT_zero h (by rw [reT_zero]; grind) (by rw [imT_zero]; grind)
theorem sT_zero' {u : F3} (h : okT u = true) : sT (0, 0, 1) u = some u := sT_of okT_zero h h (by rw [reT_zero]; grind) (by rw [imT_zero]; grind)
theorem tT_comm (u v : F3) : tT u v = tT v u := by
  cases h : tT u v with
  | none =>
    cases k : tT v u with
    | none => rfl
    | some w => obtain ⟨a, b, c, d, e⟩ := tT_val k; rw [tT_of b a c (by grind) (by grind)] at h; cases h
  | some w => obtain ⟨a, b, c, d, e⟩ := tT_val h; exact (tT_of b a c (by grind) (by grind)).symm
/-- What a fraction is that is 0. -/
theorem isz {u : F3} (h : okT u = true) : (u.1 = 0 ∧ u.2.1 = 0) ↔ (reT u = 0 ∧ imT u = 0) :=
  and_congr (rv_is0 (okF_den h)).symm (rv_is0 (okF_den h)).symm
theorem quad_n1 (p q r : Option F3) : quadO none p q r = none := rfl
theorem quad_n2 (o q r : Option F3) : quadO o none q r = none := by cases o <;> rfl
theorem quad_n3 (o p r : Option F3) : quadO o p none r = none := by cases o <;> cases p <;> rfl
theorem quad_n4 (o p q : Option F3) : quadO o p q none = none := by cases o <;> cases p <;> cases q <;> rfl
end Go.Proofs.YtnfbopaafciiiaaDoor
