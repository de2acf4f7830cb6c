/-
  Vectors, four numbers, matrices as plain mathematics: what they are.
-/
import Derived.Test.YtkdkeacfifjjoabGreatDoorBSpecV
namespace Go.Proofs.YtkdkeacfifjjoabGreatDoor
open Go.ChangeShapes Go.WideShapes Go.ChangeAt Go.RowKit
set_option linter.unusedVariables false

def quadO (o p q r : Option (Int × Int × Int)) : Option ((Int × Int × Int) × (Int × Int × Int) × (Int × Int × Int) × (Int × Int × Int)) := o.bind fun a => p.bind fun b => q.bind fun c => r.bind fun d => some (a, b, c, d)
/-- A told result of four fractions; or zeros. -/
def Gave12 (o : Option ((Int × Int × Int) × (Int × Int × Int) × (Int × Int × Int) × (Int × Int × Int))) (w : World) (e : Ending) (w' : World) : Prop :=
  (∀ a1 a2 a3 b1 b2 b3 c1 c2 c3 d1 d2 d3, o = some ((a1, a2, a3), (b1, b2, b3), (c1, c2, c3), (d1, d2, d3)) → e = .returned (.tuple #[.agg #[.int .i64 a1, .int .i64 a2, .int .i64 a3, .int .i64 b1, .int .i64 b2, .int .i64 b3, .int .i64 c1, .int .i64 c2, .int .i64 c3, .int .i64 d1, .int .i64 d2, .int .i64 d3], .bool true])) ∧ (o = none → e = .returned (.tuple #[.agg #[.int .i64 0, .int .i64 0, .int .i64 0, .int .i64 0, .int .i64 0, .int .i64 0, .int .i64 0, .int .i64 0, .int .i64 0, .int .i64 0, .int .i64 0, .int .i64 0], .bool false])) ∧ Below w.heap.size w w'
theorem quad_some {o p q r : Option (Int × Int × Int)} {a b c d : (Int × Int × Int)} (h : quadO o p q r = some (a, b, c, d)) : o = some a ∧ p = some b ∧ q = some c ∧ r = some d := by
  cases o <;> cases p <;> cases q <;> cases r <;> simp_all [quadO]
theorem quad_of {o p q r : Option (Int × Int × Int)} {a b c d : (Int × Int × Int)} (h1 : o = some a) (h2 : p = some b) (h3 : q = some c) (h4 : r = some d) : quadO o p q r = some (a, b, c, d) := by
  subst h1 h2 h3 h4
  rfl
theorem real0 {p q r : Int} (h : okF p q r = true) (e : rv q r = 0) : q = 0 := (rv_is0 (okF_den h)).1 e
theorem low_told {x y d : Int} (hd : 1 ≤ d) (hd2 : d ≤ 2000000000) (hx : -2000000000 ≤ x ∧ x ≤ 2000000000) (hy : -2000000000 ≤ y ∧ y ≤ 2000000000) : ∃ p q r, lowF x y d = some (p, q, r) := by
  rw [lowF_eq hd]
  have b1 : (x.tdiv (gcd3 x y d)).natAbs ≤ x.natAbs := by rw [Int.natAbs_tdiv]; exact Nat.div_le_self _ _
  have b2 : (y.tdiv (gcd3 x y d)).natAbs ≤ y.natAbs := by rw [Int.natAbs_tdiv]; exact Nat.div_le_self _ _
  have b3 : d / (gcd3 x y d : Int) ≤ d := Int.ediv_le_self _ (by omega)
  rw [if_pos]
  · exact ⟨_, _, _, rfl⟩
  · unfold partB inB
    simp only [Bool.and_eq_true, decide_eq_true_eq]
    omega
/-- A fraction's three numbers. -/
abbrev F3 := Int × Int × Int
abbrev F4 := F3 × F3 × F3 × F3
def okT (u : F3) : Bool := okF u.1 u.2.1 u.2.2
def reT (u : F3) : Rat := rv u.1 u.2.2
def imT (u : F3) : Rat := rv u.2.1 u.2.2
def tT (u v : F3) : Option F3 := timesF u.1 u.2.1 u.2.2 v.1 v.2.1 v.2.2
def sT (u v : F3) : Option F3 := addF u.1 u.2.1 u.2.2 v.1 v.2.1 v.2.2
def cT (u : F3) : Option F3 := mirrorF u.1 u.2.1 u.2.2
/-- A fraction mirrored. -/
def barT (u : F3) : F3 := (u.1, -u.2.1, u.2.2)
theorem uniqT {u v : F3} (h : okT u = true) (k : okT v = true) (e : reT u = reT v) (f : imT u = imT v) : u = v := by
  obtain ⟨u1, u2, u3⟩ := u
  obtain ⟨v1, v2, v3⟩ := v
  exact uniqV h k e f
theorem tT_val {u v w : F3} (h : tT u v = some w) : okT u = true ∧ okT v = true ∧ okT w = true ∧ reT w = reT u * reT v - imT u * imT v ∧ imT w = reT u * imT v + imT u * reT v := by
  obtain ⟨w1, w2, w3⟩ := w
  exact times_val h
theorem tT_of {u v w : F3} (h1 : okT u = true) (h2 : okT v = true) (h3 : okT w = true) (e : reT w = reT u * reT v - imT u * imT v) (f : imT w = reT u * imT v + imT u * reT v) : tT u v = some w := by
  obtain ⟨w1, w2, w3⟩ := w
  exact times_ofV h1 h2 h3 e f
theorem sT_val {u v w : F3} (h : sT u v = some w) : okT u = true ∧ okT v = true ∧ okT w = true ∧ reT w = reT u + reT v ∧ imT w = imT u + imT v := by
  obtain ⟨w1, w2, w3⟩ := w
  exact sum_val h
theorem sT_of {u v w : F3} (h1 : okT u = true) (h2 : okT v = true) (h3 : okT w = true) (e : reT w = reT u + reT v) (f : imT w = imT u + imT v) : sT u v = some w := by
  obtain ⟨w1, w2, w3⟩ := w
  exact sum_ofV h1 h2 h3 e f
theorem okT_bar (u : F3) : okT (barT u) = okT u := okF_neg1 _ _ _
theorem cT_some {u v : F3} (h : cT u = some v) : okT u = true ∧ v = barT u := by
  unfold cT mirrorF at h
  split at h
  · rename_i hk
    exact ⟨hk, (Option.some.inj h).symm⟩
  · cases h
theorem cT_of {u : F3} (h : okT u = true) : cT u = some (barT u) := by
  unfold cT mirrorF
  rw [if_pos (show okF u.1 u.2.1 u.2.2 = true from h)]
  rfl
/-- Two products added up. -/
def inT (u v x y : F3) : Option F3 := innF u.1 u.2.1 u.2.2 v.1 v.2.1 v.2.2 x.1 x.2.1 x.2.2 y.1 y.2.1 y.2.2
theorem inT_some {u v x y w : F3} (h : inT u v x y = some w) : ∃ m n, tT u v = some m ∧ tT x y = some n ∧ sT m n = some w := by
  obtain ⟨u1, u2, u3, v1, v2, v3, h1, h2, h3⟩ := addO_some h
  exact ⟨(u1, u2, u3), (v1, v2, v3), h1, h2, h3⟩
theorem inT_of {u v x y m n w : F3} (h1 : tT u v = some m) (h2 : tT x y = some n) (h3 : sT m n = some w) : inT u v x y = some w := by
  obtain ⟨u1, u2, u3⟩ := m
  obtain ⟨v1, v2, v3⟩ := n
  exact addO_of h1 h2 h3
theorem inT_val {u v x y w : F3} (h : inT u v x y = some w) : okT u = true ∧ okT v = true ∧ okT x = true ∧ okT y = true ∧ okT w = true ∧
    reT w = reT u * reT v - imT u * imT v + (reT x * reT y - imT x * imT y) ∧ imT w = reT u * imT v + imT u * reT v + (reT x * imT y + imT x * reT y) := by
  obtain ⟨m, n, h1, h2, h3⟩ := inT_some h
  obtain ⟨a1, a2, a3, a4, a5⟩ := tT_val h1
  obtain ⟨b1, b2, b3, b4, b5⟩ := tT_val h2
  obtain ⟨c1, c2, c3, c4, c5⟩ := sT_val h3
  exact ⟨a1, a2, b1, b2, c3, by rw [c4, a4, b4], by rw [c5, a5, b5]⟩
theorem okT_zero : okT (0, 0, 1) = true := by decide
theorem okT_one : okT (1, 0, 1) = true := by decide
theorem reT_zero : reT (0, 0, 1) = 0 := rv_zero 1
theorem imT_zero : imT (0, 0, 1) = 0 := rv_zero 1
theorem reT_one : reT (1, 0, 1) = 1 := rv_one 1
theorem imT_one : imT (1, 0, 1) = 0 := rv_zero 1
theorem tT_one {u : F3} (h : okT u = true) : tT u (1, 0, 1) = some u := tT_of h okT_one h (by rw [reT_one, imT_one]; grind) (by rw [reT_one, imT_one]; grind)
theorem tT_zero {u : F3} (h : okT u = true) : tT u (0, 0, 1) = some (0, 0, 1) := tT_of h okT_zero okT_zero (by rw [reT_zero, imT_zero]; grind) (by rw [reT_zero, imT_zero]; grind)
theorem sT_zero {u : F3} (h : okT u = true) : sT u (0, 0, 1) = some u := sT_of h okT_zero h (by rw [reT_zero]; grind) (by rw [imT_zero]; grind)
theorem sT_zero' {u : F3} (h : okT u = true) : sT (0, 0, 1) u = some u := sT_of okT_zero h h (by rw [reT_zero]; grind) (by rw [imT_zero]; grind)
theorem quad_n1 (p q r : Option F3) : quadO none p q r = none := rfl
theorem quad_n2 (o q r : Option F3) : quadO o none q r = none := by cases o <;> rfl
theorem quad_n3 (o p r : Option F3) : quadO o p none r = none := by cases o <;> cases p <;> rfl
theorem quad_n4 (o p q : Option F3) : quadO o p q none = none := by cases o <;> cases p <;> cases q <;> rfl

def okM (A : F4) : Bool := okT A.1 && okT A.2.1 && okT A.2.2.1 && okT A.2.2.2
def mulM (A B : F4) : Option F4 := quadO (inT A.1 B.1 A.2.1 B.2.2.1) (inT A.1 B.2.1 A.2.1 B.2.2.2) (inT A.2.2.1 B.1 A.2.2.2 B.2.2.1) (inT A.2.2.1 B.2.1 A.2.2.2 B.2.2.2)
def adjM (A : F4) : Option F4 := quadO (cT A.1) (cT A.2.2.1) (cT A.2.1) (cT A.2.2.2)
def appM (A : F4) (V : F3 × F3) : Option (F3 × F3) := pairO (inT A.1 V.1 A.2.1 V.2) (inT A.2.2.1 V.1 A.2.2.2 V.2)
def oneM : F4 := ((1, 0, 1), (0, 0, 1), (0, 0, 1), (1, 0, 1))
def dirB (p q : Int) : Bool := inB p (-100) 100 && inB q (-100) 100 && !(p == 0 && q == 0)
/-- A direction's c and s. -/
def dirC (p q : Int) : F3 := partsR (makeF (p * p - q * q) 0 (p * p + q * q))
def dirS (p q : Int) : F3 := partsR (makeF (2 * p * q) 0 (p * p + q * q))
def negT (u : F3) : F3 := (0 - u.1, 0, u.2.2)
def rotM (p q : Int) : Option F4 := if dirB p q = true then some (dirC p q, negT (dirS p q), dirS p q, dirC p q) else none
def phaT (k : Int) : F3 := if k = 0 then (1, 0, 1) else if k = 1 then (0, 1, 1) else if k = 2 then (-1, 0, 1) else (0, -1, 1)
def diaM (u : F3) : F4 := ((1, 0, 1), (0, 0, 1), (0, 0, 1), u)
def plaM (p q k : Int) : Option F4 := if inB k 0 3 = true then (rotM p q).bind fun R => (adjM R).bind fun B => (mulM R (diaM (phaT k))).bind fun X => mulM X B else none
theorem okM_of {a b c d : F3} (h : okM (a, b, c, d) = true) : okT a = true ∧ okT b = true ∧ okT c = true ∧ okT d = true := by
  unfold okM at h
  simp only [Bool.and_eq_true] at h
  exact ⟨h.1.1.1, h.1.1.2, h.1.2, h.2⟩
theorem okM_mk {a b c d : F3} (h1 : okT a = true) (h2 : okT b = true) (h3 : okT c = true) (h4 : okT d = true) : okM (a, b, c, d) = true := by
  unfold okM
  simp only [h1, h2, h3, h4, Bool.and_self]
theorem mulM_some {a b c d i j k l w x y z : F3} (h : mulM (a, b, c, d) (i, j, k, l) = some (w, x, y, z)) : inT a i b k = some w ∧ inT a j b l = some x ∧ inT c i d k = some y ∧ inT c j d l = some z := quad_some h
theorem mulM_not1 {A B : F4} (h : okM A = false) : mulM A B = none := by
  obtain ⟨a, b, c, d⟩ := A
  obtain ⟨i, j, k, l⟩ := B
  cases e : mulM (a, b, c, d) (i, j, k, l) with
  | none => rfl
  | some r =>
    obtain ⟨w, x, y, z⟩ := r
    obtain ⟨e1, e2, e3, e4⟩ := mulM_some e
    obtain ⟨h1, -, h2, -⟩ := inT_val e1
    obtain ⟨h3, -, h4, -⟩ := inT_val e3
    rw [okM_mk h1 h2 h3 h4] at h
    cases h
theorem mulM_not2 {A B : F4} (h : okM B = false) : mulM A B = none := by
  obtain ⟨a, b, c, d⟩ := A
  obtain ⟨i, j, k, l⟩ := B
  cases e : mulM (a, b, c, d) (i, j, k, l) with
  | none => rfl
  | some r =>
    obtain ⟨w, x, y, z⟩ := r
    obtain ⟨e1, e2, e3, e4⟩ := mulM_some e
    obtain ⟨-, h1, -, h3, -⟩ := inT_val e1
    obtain ⟨-, h2, -, h4, -⟩ := inT_val e2
    rw [okM_mk h1 h2 h3 h4] at h
    cases h
theorem mulM_ok {A B C : F4} (h : mulM A B = some C) : okM A = true ∧ okM B = true ∧ okM C = true := by
  refine ⟨?_, ?_, ?_⟩
  · cases e : okM A with
    | true => rfl
    | false => rw [mulM_not1 e] at h; cases h
  · cases e : okM B with
    | true => rfl
    | false => rw [mulM_not2 e] at h; cases h
  · obtain ⟨a, b, c, d⟩ := A
    obtain ⟨i, j, k, l⟩ := B
    obtain ⟨w, x, y, z⟩ := C
    obtain ⟨e1, e2, e3, e4⟩ := mulM_some h
    exact okM_mk (inT_val e1).2.2.2.2.1 (inT_val e2).2.2.2.2.1 (inT_val e3).2.2.2.2.1 (inT_val e4).2.2.2.2.1
theorem appM_not1 {A : F4} {V : F3 × F3} (h : okM A = false) : appM A V = none := by
  obtain ⟨a, b, c, d⟩ := A
  obtain ⟨x, y⟩ := V
  cases e : appM (a, b, c, d) (x, y) with
  | none => rfl
  | some r =>
    obtain ⟨e1, e2⟩ := pair_some (u := r.1) (v := r.2) e
    obtain ⟨h1, -, h2, -⟩ := inT_val e1
    obtain ⟨h3, -, h4, -⟩ := inT_val e2
    rw [okM_mk h1 h2 h3 h4] at h
    cases h
theorem appM_some {a b c d x y u v : F3} (h : appM (a, b, c, d) (x, y) = some (u, v)) : inT a x b y = some u ∧ inT c x d y = some v := pair_some h
theorem appM_not2 {A : F4} {x y : F3} (h : (okT x && okT y) = false) : appM A (x, y) = none := by
  obtain ⟨a, b, c, d⟩ := A
  cases e : appM (a, b, c, d) (x, y) with
  | none => rfl
  | some r =>
    obtain ⟨e1, e2⟩ := pair_some (u := r.1) (v := r.2) e
    obtain ⟨-, h1, -, h2, -⟩ := inT_val e1
    have h1' : okT x = true := h1
    have h2' : okT y = true := h2
    rw [h1', h2'] at h
    cases h
theorem adjM_some {a b c d : F3} {r : F4} (h : adjM (a, b, c, d) = some r) : okM (a, b, c, d) = true ∧ r = (barT a, barT c, barT b, barT d) := by
  obtain ⟨w, x, y, z⟩ := r
  obtain ⟨e1, e2, e3, e4⟩ := quad_some h
  obtain ⟨h1, rfl⟩ := cT_some e1
  obtain ⟨h2, rfl⟩ := cT_some e2
  obtain ⟨h3, rfl⟩ := cT_some e3
  obtain ⟨h4, rfl⟩ := cT_some e4
  exact ⟨okM_mk h1 h3 h2 h4, rfl⟩
theorem adjM_of {a b c d : F3} (h : okM (a, b, c, d) = true) : adjM (a, b, c, d) = some (barT a, barT c, barT b, barT d) := by
  obtain ⟨h1, h2, h3, h4⟩ := okM_of h
  exact quad_of (cT_of h1) (cT_of h3) (cT_of h2) (cT_of h4)
theorem adjM_ok {A B : F4} (h : adjM A = some B) : okM A = true ∧ okM B = true := by
  obtain ⟨a, b, c, d⟩ := A
  obtain ⟨h1, rfl⟩ := adjM_some h
  obtain ⟨k1, k2, k3, k4⟩ := okM_of h1
  exact ⟨h1, okM_mk (by rw [okT_bar]; exact k1) (by rw [okT_bar]; exact k3) (by rw [okT_bar]; exact k2) (by rw [okT_bar]; exact k4)⟩
theorem pair_n2 (o : Option F3) : pairO o none = none := by simp [pairO, okR]
theorem im0 {u : F3} (h : u.2.1 = 0) : imT u = 0 := by
  unfold imT
  rw [h, rv_zero]
end Go.Proofs.YtkdkeacfifjjoabGreatDoor
