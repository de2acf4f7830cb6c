/-
  Matrices as plain functions.
-/
import Derived.Test.YtnfbopaafciiiaaDoorF3
namespace Go.Proofs.YtnfbopaafciiiaaDoor
set_option linter.unusedVariables false

def okM (A : F4) : Bool := okT A.1 && okT A.2.1 && okT A.2.2.1 && okT A.2.2.2
def mulM (A B : F4) : Option F4 := quadO (inT A.1 B.1 A.2.1 B.2.2.1) (inT A.1 B.2.1 A.2.1 B.2.2.2) (inT A.2.2.1 B.1 A.2.2.2 B.2.2.1) (inT A.2.2.1 B.2.1 A.2.2.2 B.2.2.2)
def adjM (A : F4) : Option F4 := quadO (cT A.1) (cT A.2.2.1) (cT A.2.1) (cT A.2.2.2)
def appM (A : F4) (V : F3 × F3) : Option (F3 × F3) := pairO (inT A.1 V.1 A.2.1 V.2) (inT A.2.2.1 V.1 A.2.2.2 V.2)
def detM (A : F4) : Option F3 := lessO (tT A.1 A.2.2.2) (tT A.2.1 A.2.2.1)
def oneM : F4 := ((1, 0, 1), (0, 0, 1), (0, 0, 1), (1, 0, 1))
def losM (A : F4) : Bool := (adjM A).bind (mulM A) == some oneM
def darkM (A : F4) : Bool := A.1.1 == 0 && A.1.2.1 == 0 && A.2.1.1 == 0 && A.2.1.2.1 == 0 && A.2.2.1.1 == 0 && A.2.2.1.2.1 == 0 && A.2.2.2.1 == 0 && A.2.2.2.2.1 == 0
/-- Both products are told and the same. -/
def crsM (u v s t : F3) : Bool := (tT u t).isSome && (tT u t == tT v s)
def alkM (A B : F4) : Bool :=
  okM A && okM B && (darkM A == darkM B) && crsM A.2.1 A.1 B.2.1 B.1 && crsM A.2.2.1 A.1 B.2.2.1 B.1 && crsM A.2.2.1 A.2.1 B.2.2.1 B.2.1 && crsM A.2.2.2 A.1 B.2.2.2 B.1 && crsM A.2.2.2 A.2.1 B.2.2.2 B.2.1 && crsM A.2.2.2 A.2.2.1 B.2.2.2 B.2.2.1
def dirB (p q : Int) : Bool := inB p (-100) 100 && inB q (-100) 100 && !(p == 0 && q == 0)
/-- A direction's c and s. -/
def dirC (p q : Int) : F3 := partsR (makeF (p * p - q * q) 0 (p * p + q * q))
def dirS (p q : Int) : F3 := partsR (makeF (2 * p * q) 0 (p * p + q * q))
def negT (u : F3) : F3 := (0 - u.1, 0, u.2.2)
def rotM (p q : Int) : Option F4 := if dirB p q = true then some (dirC p q, negT (dirS p q), dirS p q, dirC p q) else none
def phaT (k : Int) : F3 := if k = 0 then (1, 0, 1) else if k = 1 then (0, 1, 1) else if k = 2 then (-1, 0, 1) else (0, -1, 1)
def diaM (u : F3) : F4 := ((1, 0, 1), (0, 0, 1), (0, 0, 1), u)
def plaM (p q k : Int) : Option F4 := if inB k 0 3 = true then (rotM p q).bind fun R => (adjM R).bind fun B => (mulM R (diaM (phaT k))).bind fun X => mulM X B else none
def filM (p q : Int) : Option F4 := if dirB p q = true then (tT (dirC p q) (dirC p q)).bind fun a => (tT (dirC p q) (dirS p q)).bind fun b => (tT (dirS p q) (dirS p q)).bind fun d => some (a, b, b, d) else none
def sclM (A : F4) (c : F3) : Option F4 := quadO (tT A.1 c) (tT A.2.1 c) (tT A.2.2.1 c) (tT A.2.2.2 c)
theorem okM_of {a b c d : F3} (h : okM (a, b, c, d) = true) : okT a = true ∧ okT b = true ∧ okT c = true ∧ okT d = true := by
  unfold okM at h
  simp only [Bool.and_eq_true] at h
  exact ⟨h.1.1.1, h.1.1.2, h.1.2, h.2⟩
theorem okM_mk {a b c d : F3} (h1 : okT a = true) (h2 : okT b = true) (h3 : okT c = true) (h4 : okT d = true) : okM (a, b, c, d) = true := by
  unfold okM
  simp only [h1, h2, h3, h4, Bool.and_self]
theorem mulM_some {a b c d i j k l w x y z : F3} (h : mulM (a, b, c, d) (i, j, k, l) = some (w, x, y, z)) : inT a i b k = some w ∧ inT a j b l = some x ∧ inT c i d k = some y ∧ inT c j d l = some z := quad_some h
theorem mulM_not1 {A B : F4} (h : okM A = false) : mulM A B = none := by
  obtain ⟨a, b, c, d⟩ := A
  obtain ⟨i, j, k, l⟩ := B
  cases e : mulM (a, b, c, d) (i, j, k, l) with
  | none => rfl
  | some r =>
    obtain ⟨w, x, y, z⟩ := r
    obtain ⟨e1, e2, e3, e4⟩ := mulM_some e
    obtain ⟨h1, -, h2, -⟩ := inT_val e1
    obtain ⟨h3, -, h4, -⟩ := inT_val e3
    rw [okM_mk h1 h2 h3 h4] at h
    cases h
theorem mulM_not2 {A B : F4} (h : okM B = false) : mulM A B = none := by
  obtain ⟨a, b, c, d⟩ := A
  obtain ⟨i, j, k, l⟩ := B
  cases e : mulM (a, b, c, d) (i, j, k, l) with
  | none => rfl
  | some r =>
    obtain ⟨w, x, y, z⟩ := r
    obtain ⟨e1, e2, e3, e4⟩ := mulM_some e
    obtain ⟨-, h1, -, h3, -⟩ := inT_val e1
    obtain ⟨-, h2, -, h4, -⟩ := inT_val e2
    rw [okM_mk h1 h2 h3 h4] at h
    cases h
theorem mulM_ok {A B C : F4} (h : mulM A B = some C) : okM A = true ∧ okM B = true ∧ okM C = true := by
  refine ⟨?_, ?_, ?_⟩
  · cases e : okM A with
    | true => rfl
    | false => rw [mulM_not1 e] at h; cases h
  · cases e : okM B with
    | true => rfl
    | false => rw [mulM_not2 e] at h; cases h
  · obtain ⟨a, b, c, d⟩ := A
    obtain ⟨i, j, k, l⟩ := B
    obtain ⟨w, x, y, z⟩ := C
    obtain ⟨e1, e2, e3, e4⟩ := mulM_some h
    exact okM_mk (inT_val e1).2.2.2.2.1 (inT_val e2).2.2.2.2.1 (inT_val e3).2.2.2.2.1 (inT_val e4).2.2.2.2.1
theorem appM_not1 {A : F4} {V : F3 × F3} (h : okM A = false) : appM A V = none := by
  obtain ⟨a, b, c, d⟩ := A
  obtain ⟨x, y⟩ := V
  cases e : appM (a, b, c, d) (x, y) with
  | none => rfl
  | some r =>
    obtain ⟨e1, e2⟩ := pair_some (u := r.1) (v := r.2) e
    obtain ⟨h1, -, h2, -⟩ := inT_val e1
    obtain ⟨h3, -, h4, -⟩ := inT_val e2
    rw [okM_mk h1 h2 h3 h4] at h
    cases h
theorem appM_some {a b c d x y u v : F3} (h : appM (a, b, c, d) (x, y) = some (u, v)) : inT a x b y = some u ∧ inT c x d y = some v := pair_some h
theorem appM_not2 {A : F4} {x y : F3} (h : (okT x && okT y) = false) : appM A (x, y) = none := by
  obtain ⟨a, b, c, d⟩ := A
  cases e : appM (a, b, c, d) (x, y) with
  | none => rfl
  | some r =>
    obtain ⟨e1, e2⟩ := pair_some (u := r.1) (v := r.2) e
    obtain ⟨-, h1, -, h2, -⟩ := inT_val e1
    have h1' : okT x = true := h1
    have h2' : okT y = true := h2
    rw [h1', h2'] at h
    cases h
theorem adjM_some {a b c d : F3} {r : F4} (h : adjM (a, b, c, d) = some r) : okM (a, b, c, d) = true ∧ r = (barT a, barT c, barT b, barT d) := by
  obtain ⟨w, x, y, z⟩ := r
  obtain ⟨e1, e2, e3, e4⟩ := quad_some h
  obtain ⟨h1, rfl⟩ := cT_some e1
  obtain ⟨h2, rfl⟩ := cT_some e2
  obtain ⟨h3, rfl⟩ := cT_some e3
  obtain ⟨h4, rfl⟩ := cT_some e4
  exact ⟨okM_mk h1 h3 h2 h4, rfl⟩
theorem adjM_of {a b c d : F3} (h : okM (a, b, c, d) = true) : adjM (a, b, c, d) = some (barT a, barT c, barT b, barT d) := by
  obtain ⟨h1, h2, h3, h4⟩ := okM_of h
  exact quad_of (cT_of h1) (cT_of h3) (cT_of h2) (cT_of h4)
theorem adjM_ok {A B : F4} (h : adjM A = some B) : okM A = true ∧ okM B = true := by
  obtain ⟨a, b, c, d⟩ := A
  obtain ⟨h1, rfl⟩ := adjM_some h
  obtain ⟨k1, k2, k3, k4⟩ := okM_of h1
  exact ⟨h1, okM_mk (by rw [okT_bar]; exact k1) (by rw [okT_bar]; exact k3) (by rw [okT_bar]; exact k2) (by rw [okT_bar]; exact k4)⟩
theorem sclM_some {a b c d q w x y z : F3} (h : sclM (a, b, c, d) q = some (w, x, y, z)) : tT a q = some w ∧ tT b q = some x ∧ tT c q = some y ∧ tT d q = some z := quad_some h
theorem sclM_not {A : F4} {q : F3} (h : okM A = false) : sclM A q = none := by
  obtain ⟨a, b, c, d⟩ := A
  cases e : sclM (a, b, c, d) q with
  | none => rfl
  | some r =>
    obtain ⟨w, x, y, z⟩ := r
    obtain ⟨e1, e2, e3, e4⟩ := sclM_some e
    rw [okM_mk (tT_val e1).1 (tT_val e2).1 (tT_val e3).1 (tT_val e4).1] at h
    cases h
theorem sclM_ok {A B : F4} {q : F3} (h : sclM A q = some B) : okM A = true ∧ okM B = true := by
  obtain ⟨a, b, c, d⟩ := A
  obtain ⟨w, x, y, z⟩ := B
  obtain ⟨e1, e2, e3, e4⟩ := sclM_some h
  exact ⟨okM_mk (tT_val e1).1 (tT_val e2).1 (tT_val e3).1 (tT_val e4).1, okM_mk (tT_val e1).2.2.1 (tT_val e2).2.2.1 (tT_val e3).2.2.1 (tT_val e4).2.2.1⟩
theorem lossM_some {A : F4} (h : losM A = true) : ∃ B, adjM A = some B ∧ mulM A B = some oneM := by
  unfold losM at h
  cases e : adjM A with
  | none => rw [e] at h; simp at h
  | some B => rw [e] at h; exact ⟨B, rfl, by simpa using h⟩
theorem losM_of {A B : F4} (h : adjM A = some B) (k : mulM A B = some oneM) : losM A = true := by
  unfold losM
  rw [h]
  simp [k]
theorem detM_some {a b c d r : F3} (h : detM (a, b, c, d) = some r) : ∃ x y, tT a d = some x ∧ tT b c = some y ∧ lT x y = some r := by
  obtain ⟨r1, r2, r3⟩ := r
  obtain ⟨u1, u2, u3, v1, v2, v3, h1, h2, h3⟩ := lessO_some h
  exact ⟨(u1, u2, u3), (v1, v2, v3), h1, h2, h3⟩
theorem detM_val {a b c d r : F3} (h : detM (a, b, c, d) = some r) : okM (a, b, c, d) = true ∧ okT r = true ∧
    reT r = reT a * reT d - imT a * imT d - (reT b * reT c - imT b * imT c) ∧ imT r = reT a * imT d + imT a * reT d - (reT b * imT c + imT b * reT c) := by
  obtain ⟨x, y, h1, h2, h3⟩ := detM_some h
  obtain ⟨a1, a2, a3, a4, a5⟩ := tT_val h1
  obtain ⟨b1, b2, b3, b4, b5⟩ := tT_val h2
  obtain ⟨c1, c2, c3, c4, c5⟩ := lT_val h3
  exact ⟨okM_mk a1 b1 b2 a2, c3, by rw [c4, a4, b4], by rw [c5, a5, b5]⟩
theorem pair_n2 (o : Option F3) : pairO o none = none := by simp [pairO, okR]
theorem lessO_n2 (o : Option F3) : lessO o none = none := by cases o <;> rfl
end Go.Proofs.YtnfbopaafciiiaaDoor
