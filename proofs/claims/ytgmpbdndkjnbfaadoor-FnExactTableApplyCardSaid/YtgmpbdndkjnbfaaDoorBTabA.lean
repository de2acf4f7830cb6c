/-
  Tables as plain mathematics: what they are.
-/
import Derived.Test.YtgmpbdndkjnbfaaDoorBMathA
namespace Go.Proofs.YtgmpbdndkjnbfaaDoor
open Go.ChangeShapes Go.WideShapes Go.ChangeAt Go.RowKit
set_option linter.unusedVariables false

/-- A table: four rows. -/
abbrev F16 := F4 × F4 × F4 × F4
def rlT (u : F3) : Bool := okT u && u.2.1 == 0
def rl4 (x : F4) : Bool := rlT x.1 && rlT x.2.1 && rlT x.2.2.1 && rlT x.2.2.2
def okTb (T : F16) : Bool := rl4 T.1 && rl4 T.2.1 && rl4 T.2.2.1 && rl4 T.2.2.2
def sO (o p : Option F3) : Option F3 := o.bind fun u => p.bind fun v => sT u v
/-- A row times a column, the sums from the first product on. -/
def rowT (x y : F4) : Option F3 := sO (sO (sO (tT x.1 y.1) (tT x.2.1 y.2.1)) (tT x.2.2.1 y.2.2.1)) (tT x.2.2.2 y.2.2.2)
def quad4 (o p q r : Option F4) : Option F16 := o.bind fun a => p.bind fun b => q.bind fun c => r.bind fun d => some (a, b, c, d)
def col0 (T : F16) : F4 := (T.1.1, T.2.1.1, T.2.2.1.1, T.2.2.2.1)
def col1 (T : F16) : F4 := (T.1.2.1, T.2.1.2.1, T.2.2.1.2.1, T.2.2.2.2.1)
def col2 (T : F16) : F4 := (T.1.2.2.1, T.2.1.2.2.1, T.2.2.1.2.2.1, T.2.2.2.2.2.1)
def col3 (T : F16) : F4 := (T.1.2.2.2, T.2.1.2.2.2, T.2.2.1.2.2.2, T.2.2.2.2.2.2)
def appTb (T : F16) (s : F4) : Option F4 := if (okTb T && rl4 s) = true then quadO (rowT T.1 s) (rowT T.2.1 s) (rowT T.2.2.1 s) (rowT T.2.2.2 s) else none
def rowM (x : F4) (B : F16) : Option F4 := quadO (rowT x (col0 B)) (rowT x (col1 B)) (rowT x (col2 B)) (rowT x (col3 B))
def mulTb (A B : F16) : Option F16 := if (okTb A && okTb B) = true then quad4 (rowM A.1 B) (rowM A.2.1 B) (rowM A.2.2.1 B) (rowM A.2.2.2 B) else none
/-- A product with a mirrored fraction. -/
def cxT (u v : F3) : Option F3 := (cT v).bind fun m => tT u m
def lO (o p : Option F3) : Option F3 := o.bind fun u => p.bind fun v => lT u v
/-- The real part over a number, the imaginary part over it. -/
def reN (n : Int) (o : Option F3) : Option F3 := o.bind fun c => makeF c.1 0 (c.2.2 * n)
def imN (n : Int) (o : Option F3) : Option F3 := o.bind fun c => makeF c.2.1 0 (c.2.2 * n)
def tabM (A : F4) : Option F16 :=
  let a := A.1; let b := A.2.1; let c := A.2.2.1; let d := A.2.2.2
  if okM A = true then
    quad4
      (quadO (reN 2 (sO (sO (sO (cxT a a) (cxT b b)) (cxT c c)) (cxT d d))) (reN 2 (lO (sO (lO (cxT a a) (cxT b b)) (cxT c c)) (cxT d d))) (reN 1 (sO (cxT a b) (cxT c d))) (imN 1 (sO (cxT b a) (cxT d c))))
      (quadO (reN 2 (lO (lO (sO (cxT a a) (cxT b b)) (cxT c c)) (cxT d d))) (reN 2 (sO (lO (lO (cxT a a) (cxT b b)) (cxT c c)) (cxT d d))) (reN 1 (lO (cxT a b) (cxT c d))) (imN 1 (lO (cxT b a) (cxT d c))))
      (quadO (reN 1 (sO (cxT a c) (cxT b d))) (reN 1 (lO (cxT a c) (cxT b d))) (reN 1 (sO (cxT a d) (cxT b c))) (imN 1 (lO (cxT b c) (cxT a d))))
      (quadO (imN 1 (sO (cxT a c) (cxT b d))) (imN 1 (lO (cxT a c) (cxT b d))) (imN 1 (sO (cxT a d) (cxT b c))) (reN 1 (lO (cxT a d) (cxT b c))))
  else none
theorem rlT_ok {u : F3} (h : rlT u = true) : okT u = true ∧ imT u = 0 := by
  unfold rlT at h
  simp only [Bool.and_eq_true, beq_iff_eq] at h
  exact ⟨h.1, im0 h.2⟩
theorem rlT_of {u : F3} (h : okT u = true) (k : imT u = 0) : rlT u = true := by
  unfold rlT
  rw [h, real0 (p := u.1) (q := u.2.1) (r := u.2.2) h k]
  rfl
theorem rl4_ok {a b c d : F3} (h : rl4 (a, b, c, d) = true) : rlT a = true ∧ rlT b = true ∧ rlT c = true ∧ rlT d = true := by
  unfold rl4 at h
  simp only [Bool.and_eq_true] at h
  exact ⟨h.1.1.1, h.1.1.2, h.1.2, h.2⟩
theorem rl4_mk {a b c d : F3} (h1 : rlT a = true) (h2 : rlT b = true) (h3 : rlT c = true) (h4 : rlT d = true) : rl4 (a, b, c, d) = true := by
  unfold rl4
  simp only [h1, h2, h3, h4, Bool.and_self]
theorem sO_some {o p : Option F3} {r : F3} (h : sO o p = some r) : ∃ u v, o = some u ∧ p = some v ∧ sT u v = some r := by
  cases o with
  | none => cases h
  | some u =>
    cases p with
    | none => cases h
    | some v => exact ⟨u, v, rfl, rfl, h⟩
theorem lO_some {o p : Option F3} {r : F3} (h : lO o p = some r) : ∃ u v, o = some u ∧ p = some v ∧ lT u v = some r := by
  cases o with
  | none => cases h
  | some u =>
    cases p with
    | none => cases h
    | some v => exact ⟨u, v, rfl, rfl, h⟩
theorem cxT_val {u v w : F3} (h : cxT u v = some w) : okT u = true ∧ okT v = true ∧ okT w = true ∧ reT w = reT u * reT v + imT u * imT v ∧ imT w = imT u * reT v - reT u * imT v := by
  unfold cxT at h
  cases e : cT v with
  | none => rw [e] at h; cases h
  | some m =>
    rw [e] at h
    obtain ⟨k, rfl⟩ := cT_some e
    obtain ⟨h1, h2, h3, h4, h5⟩ := tT_val (show tT u (barT v) = some w from h)
    rw [reT_bar, imT_bar] at h4 h5
    exact ⟨h1, k, h3, by rw [h4]; grind, by rw [h5]; grind⟩
theorem rowT_val {a b c d i j k l w : F3} (h : rowT (a, b, c, d) (i, j, k, l) = some w) (ha : rl4 (a, b, c, d) = true) (hi : rl4 (i, j, k, l) = true) :
    rlT w = true ∧ reT w = reT a * reT i + reT b * reT j + reT c * reT k + reT d * reT l := by
  obtain ⟨a1, b1, c1, d1⟩ := rl4_ok ha
  obtain ⟨i1, j1, k1, l1⟩ := rl4_ok hi
  obtain ⟨s3, p4, h3, e4, h⟩ := sO_some h
  obtain ⟨s2, p3, h2, e3, h3⟩ := sO_some h3
  obtain ⟨p1, p2, e1, e2, h2⟩ := sO_some h2
  obtain ⟨-, -, o1, r1, m1⟩ := tT_val e1
  obtain ⟨-, -, o2, r2, m2⟩ := tT_val e2
  obtain ⟨-, -, o3, r3, m3⟩ := tT_val e3
  obtain ⟨-, -, o4, r4, m4⟩ := tT_val e4
  obtain ⟨-, -, q1, t1, n1⟩ := sT_val h2
  obtain ⟨-, -, q2, t2, n2⟩ := sT_val h3
  obtain ⟨-, -, q3, t3, n3⟩ := sT_val h
  have za := (rlT_ok a1).2; have zb := (rlT_ok b1).2; have zc := (rlT_ok c1).2; have zd := (rlT_ok d1).2
  have zi := (rlT_ok i1).2; have zj := (rlT_ok j1).2; have zk := (rlT_ok k1).2; have zl := (rlT_ok l1).2
  refine ⟨rlT_of q3 ?_, ?_⟩
  · rw [n3, n2, n1, m1, m2, m3, m4, za, zb, zc, zd, zi, zj, zk, zl]; grind
  · rw [t3, t2, t1, r1, r2, r3, r4, za, zb, zc, zd]; grind

/-- The sum of products as the model makes it: its value and whether all of it is told. -/
def v3O (o : Option F3) : F3 := partsR o
def rowV (x y : F4) : F3 := v3O (sT (v3O (sT (v3O (sT (v3O (sT (0, 0, 1) (v3O (tT x.1 y.1)))) (v3O (tT x.2.1 y.2.1)))) (v3O (tT x.2.2.1 y.2.2.1)))) (v3O (tT x.2.2.2 y.2.2.2)))
def rowK (x y : F4) : Bool :=
  okR (tT x.1 y.1) && okR (sT (0, 0, 1) (v3O (tT x.1 y.1))) && (okR (tT x.2.1 y.2.1) && okR (sT (v3O (sT (0, 0, 1) (v3O (tT x.1 y.1)))) (v3O (tT x.2.1 y.2.1)))) &&
  (okR (tT x.2.2.1 y.2.2.1) && okR (sT (v3O (sT (v3O (sT (0, 0, 1) (v3O (tT x.1 y.1)))) (v3O (tT x.2.1 y.2.1)))) (v3O (tT x.2.2.1 y.2.2.1)))) &&
  (okR (tT x.2.2.2 y.2.2.2) && okR (sT (v3O (sT (v3O (sT (v3O (sT (0, 0, 1) (v3O (tT x.1 y.1)))) (v3O (tT x.2.1 y.2.1)))) (v3O (tT x.2.2.1 y.2.2.1)))) (v3O (tT x.2.2.2 y.2.2.2))))
theorem tT_ok {u v : F3} {r : F3} (h : tT u v = some r) : okT r = true := (tT_val h).2.2.1
theorem sT_not2 {u v : F3} (h : okT v = false) : sT u v = none := by
  cases e : sT u v with
  | none => rfl
  | some r => rw [(sT_val e).2.1] at h; cases h
theorem sT_not1 {u v : F3} (h : okT u = false) : sT u v = none := by
  cases e : sT u v with
  | none => rfl
  | some r => rw [(sT_val e).1] at h; cases h
theorem okT_bad : okT (0, 0, 0) = false := by decide
theorem rowT_eq (x y : F4) : rowT x y = if rowK x y = true then some (rowV x y) else none := by
  unfold rowT rowK rowV v3O
  cases e1 : tT x.1 y.1 with
  | none => simp [sO, okR]
  | some a =>
    have z : sT (0, 0, 1) a = some a := sT_zero' (tT_ok e1)
    have q : partsR (some a) = a := rfl
    have o1 : okR (some a) = true := rfl
    rw [q, z, q, o1]
    cases e2 : tT x.2.1 y.2.1 with
    | none => simp [sO, okR]
    | some b =>
      have q2 : partsR (some b) = b := rfl
      have o2 : okR (some b) = true := rfl
      rw [q2, o2]
      cases e3 : sT a b with
      | none => simp [sO, okR, e3]
      | some c =>
        have q3 : partsR (some c) = c := rfl
        have o3 : okR (some c) = true := rfl
        rw [q3, o3]
        cases e4 : tT x.2.2.1 y.2.2.1 with
        | none => simp [sO, okR]
        | some d =>
          have q4 : partsR (some d) = d := rfl
          have o4 : okR (some d) = true := rfl
          rw [q4, o4]
          cases e5 : sT c d with
          | none => simp [sO, okR, e3, e5]
          | some f =>
            have q5 : partsR (some f) = f := rfl
            have o5 : okR (some f) = true := rfl
            rw [q5, o5]
            cases e6 : tT x.2.2.2 y.2.2.2 with
            | none => simp [sO, okR]
            | some g =>
              have q6 : partsR (some g) = g := rfl
              have o6 : okR (some g) = true := rfl
              rw [q6, o6]
              cases e7 : sT f g with
              | none => simp [sO, okR, e3, e5, e7]
              | some i =>
                have q7 : partsR (some i) = i := rfl
                have o7 : okR (some i) = true := rfl
                rw [q7, o7]
                simp [sO, e3, e5, e7]
theorem rowT_at {x y : F4} {v : F3} {k : Bool} (hv : rowV x y = v) (hk : rowK x y = k) : rowT x y = if k = true then some v else none := by
  rw [rowT_eq, hv, hk]
theorem appTb_not1 {T : F16} {s : F4} (h : okTb T = false) : appTb T s = none := by unfold appTb; rw [h]; rfl
theorem appTb_not2 {T : F16} {s : F4} (h : rl4 s = false) : appTb T s = none := by unfold appTb; rw [h, Bool.and_false]; rfl
theorem appTb_at {T : F16} {s : F4} (h : okTb T = true) (k : rl4 s = true) : appTb T s = quadO (rowT T.1 s) (rowT T.2.1 s) (rowT T.2.2.1 s) (rowT T.2.2.2 s) := by unfold appTb; rw [h, k]; rfl
end Go.Proofs.YtgmpbdndkjnbfaaDoor
