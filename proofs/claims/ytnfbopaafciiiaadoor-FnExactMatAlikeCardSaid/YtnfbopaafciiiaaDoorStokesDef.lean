/-
  Four numbers of light: plain functions.
-/
import Derived.Test.YtnfbopaafciiiaaDoorBSpecV
namespace Go.Proofs.YtnfbopaafciiiaaDoor
open Go.ChangeShapes Go.WideShapes Go.ChangeAt Go.RowKit
set_option linter.unusedVariables false

theorem bind_open {α : Type} (o : Option (Int × Int × Int)) (f : (Int × Int × Int) → Option α) : o.bind f = if okR o = true then f (partsR o) else none := by
  cases o <;> simp [okR, partsR]
def realB (x y z : Int) : Bool := okF x y z && y == 0
def sValid (a1 a2 a3 b1 b2 b3 c1 c2 c3 d1 d2 d3 : Int) : Bool := realB a1 a2 a3 && realB b1 b2 b3 && realB c1 c2 c3 && realB d1 d2 d3
def quadO (o p q r : Option (Int × Int × Int)) : Option ((Int × Int × Int) × (Int × Int × Int) × (Int × Int × Int) × (Int × Int × Int)) := o.bind fun a => p.bind fun b => q.bind fun c => r.bind fun d => some (a, b, c, d)
def sumO (o : Option (Int × Int × Int)) (p : Option (Int × Int × Int)) : Option (Int × Int × Int) := o.bind fun u => p.bind fun v => addF u.1 u.2.1 u.2.2 v.1 v.2.1 v.2.2
def squaresF (a1 a2 a3 b1 b2 b3 c1 c2 c3 d1 d2 d3 : Int) : Option (Int × Int × Int) := if sValid a1 a2 a3 b1 b2 b3 c1 c2 c3 d1 d2 d3 = true then sumO (sumO (sumO (some (0, 0, 1)) (timesF b1 b2 b3 b1 b2 b3)) (timesF c1 c2 c3 c1 c2 c3)) (timesF d1 d2 d3 d1 d2 d3) else none
def restF (a1 a2 a3 b1 b2 b3 c1 c2 c3 d1 d2 d3 : Int) : Option Int := (squaresF a1 a2 a3 b1 b2 b3 c1 c2 c3 d1 d2 d3).bind fun s => (timesF a1 a2 a3 a1 a2 a3).bind fun t => compareF t.1 t.2.1 t.2.2 s.1 s.2.1 s.2.2
def lightF (a1 a2 a3 b1 b2 b3 c1 c2 c3 d1 d2 d3 : Int) : Bool := (restF a1 a2 a3 b1 b2 b3 c1 c2 c3 d1 d2 d3).isSome && decide (0 ≤ (restF a1 a2 a3 b1 b2 b3 c1 c2 c3 d1 d2 d3).getD 0) && decide (0 ≤ a1)
def pureF (a1 a2 a3 b1 b2 b3 c1 c2 c3 d1 d2 d3 : Int) : Bool := (restF a1 a2 a3 b1 b2 b3 c1 c2 c3 d1 d2 d3).isSome && decide ((restF a1 a2 a3 b1 b2 b3 c1 c2 c3 d1 d2 d3).getD 0 = 0) && decide (0 ≤ a1)
def saddF (a1 a2 a3 b1 b2 b3 c1 c2 c3 d1 d2 d3 i1 i2 i3 j1 j2 j3 k1 k2 k3 l1 l2 l3 : Int) : Option ((Int × Int × Int) × (Int × Int × Int) × (Int × Int × Int) × (Int × Int × Int)) := if (sValid a1 a2 a3 b1 b2 b3 c1 c2 c3 d1 d2 d3 && sValid i1 i2 i3 j1 j2 j3 k1 k2 k3 l1 l2 l3) = true then quadO (addF a1 a2 a3 i1 i2 i3) (addF b1 b2 b3 j1 j2 j3) (addF c1 c2 c3 k1 k2 k3) (addF d1 d2 d3 l1 l2 l3) else none
def stimesF (a1 a2 a3 b1 b2 b3 c1 c2 c3 d1 d2 d3 q1 q2 q3 : Int) : Option ((Int × Int × Int) × (Int × Int × Int) × (Int × Int × Int) × (Int × Int × Int)) := if (sValid a1 a2 a3 b1 b2 b3 c1 c2 c3 d1 d2 d3 && realB q1 q2 q3) = true then quadO (timesF a1 a2 a3 q1 q2 q3) (timesF b1 b2 b3 q1 q2 q3) (timesF c1 c2 c3 q1 q2 q3) (timesF d1 d2 d3 q1 q2 q3) else none
def smirrorF (a1 a2 a3 b1 b2 b3 c1 c2 c3 d1 d2 d3 : Int) : Option ((Int × Int × Int) × (Int × Int × Int) × (Int × Int × Int) × (Int × Int × Int)) := if sValid a1 a2 a3 b1 b2 b3 c1 c2 c3 d1 d2 d3 = true then some ((a1, a2, a3), (b1, b2, b3), (c1, c2, c3), (-d1, d2, d3)) else none
def lessO (o : Option (Int × Int × Int)) (p : Option (Int × Int × Int)) : Option (Int × Int × Int) := o.bind fun u => p.bind fun v => lessF u.1 u.2.1 u.2.2 v.1 v.2.1 v.2.2
def crossO (x1 x2 x3 y1 y2 y3 : Int) : Option (Int × Int × Int) := (mirrorF y1 y2 y3).bind fun m => timesF x1 x2 x3 m.1 m.2.1 m.2.2
def reO (o : Option (Int × Int × Int)) : Option (Int × Int × Int) := o.bind fun c => makeF (2 * c.1) 0 c.2.2
def imO (o : Option (Int × Int × Int)) : Option (Int × Int × Int) := o.bind fun c => makeF (2 * c.2.1) 0 c.2.2
def sofF (x1 x2 x3 y1 y2 y3 : Int) : Option ((Int × Int × Int) × (Int × Int × Int) × (Int × Int × Int) × (Int × Int × Int)) := quadO (jpowF x1 x2 x3 y1 y2 y3) (lessO (powerF x1 x2 x3) (powerF y1 y2 y3)) (reO (crossO x1 x2 x3 y1 y2 y3)) (imO (crossO x1 x2 x3 y1 y2 y3))
def svecF (a1 a2 a3 b1 b2 b3 c1 c2 c3 d1 d2 d3 : Int) : Option ((Int × Int × Int) × (Int × Int × Int)) :=
  if (pureF a1 a2 a3 b1 b2 b3 c1 c2 c3 d1 d2 d3 && !(a1 == 0)) = true then
    (addF a1 a2 a3 b1 b2 b3).bind fun s => (makeF (2 * a1) 0 a3).bind fun t => (timesF d1 d2 d3 0 (-1) 1).bind fun u =>
      if s.1 = 0 then some ((0, 0, 1), t) else (addF c1 c2 c3 u.1 u.2.1 u.2.2).bind fun y => some (s, y)
  else none
/-- Two products are told and the same. -/
def prodB (u1 u2 u3 v1 v2 v3 s1 s2 s3 t1 t2 t3 : Int) : Bool := (timesF u1 u2 u3 t1 t2 t3).isSome && (timesF u1 u2 u3 t1 t2 t3 == timesF v1 v2 v3 s1 s2 s3)
def salikeF (a1 a2 a3 b1 b2 b3 c1 c2 c3 d1 d2 d3 i1 i2 i3 j1 j2 j3 k1 k2 k3 l1 l2 l3 : Int) : Bool :=
  sValid a1 a2 a3 b1 b2 b3 c1 c2 c3 d1 d2 d3 && sValid i1 i2 i3 j1 j2 j3 k1 k2 k3 l1 l2 l3 && (signI a1 == signI i1) &&
  prodB b1 b2 b3 a1 a2 a3 j1 j2 j3 i1 i2 i3 && prodB c1 c2 c3 a1 a2 a3 k1 k2 k3 i1 i2 i3 && prodB c1 c2 c3 b1 b2 b3 k1 k2 k3 j1 j2 j3 && prodB d1 d2 d3 a1 a2 a3 l1 l2 l3 i1 i2 i3 && prodB d1 d2 d3 b1 b2 b3 l1 l2 l3 j1 j2 j3 && prodB d1 d2 d3 c1 c2 c3 l1 l2 l3 k1 k2 k3
/-- A told result of four fractions; or zeros. -/
def Gave12 (o : Option ((Int × Int × Int) × (Int × Int × Int) × (Int × Int × Int) × (Int × Int × Int))) (w : World) (e : Ending) (w' : World) : Prop :=
  (∀ a1 a2 a3 b1 b2 b3 c1 c2 c3 d1 d2 d3, o = some ((a1, a2, a3), (b1, b2, b3), (c1, c2, c3), (d1, d2, d3)) → e = .returned (.tuple #[.agg #[.int .i64 a1, .int .i64 a2, .int .i64 a3, .int .i64 b1, .int .i64 b2, .int .i64 b3, .int .i64 c1, .int .i64 c2, .int .i64 c3, .int .i64 d1, .int .i64 d2, .int .i64 d3], .bool true])) ∧ (o = none → e = .returned (.tuple #[.agg #[.int .i64 0, .int .i64 0, .int .i64 0, .int .i64 0, .int .i64 0, .int .i64 0, .int .i64 0, .int .i64 0, .int .i64 0, .int .i64 0, .int .i64 0, .int .i64 0], .bool false])) ∧ Below w.heap.size w w'
theorem realB_ok {x y z : Int} (h : realB x y z = true) : okF x y z = true ∧ y = 0 := by
  unfold realB at h
  simp only [Bool.and_eq_true, beq_iff_eq] at h
  exact h
theorem sValid_ok {a1 a2 a3 b1 b2 b3 c1 c2 c3 d1 d2 d3 : Int} (h : sValid a1 a2 a3 b1 b2 b3 c1 c2 c3 d1 d2 d3 = true) : realB a1 a2 a3 = true ∧ realB b1 b2 b3 = true ∧ realB c1 c2 c3 = true ∧ realB d1 d2 d3 = true := by
  unfold sValid at h
  simp only [Bool.and_eq_true] at h
  exact ⟨h.1.1.1, h.1.1.2, h.1.2, h.2⟩
theorem quad_some {o p q r : Option (Int × Int × Int)} {a b c d : (Int × Int × Int)} (h : quadO o p q r = some (a, b, c, d)) : o = some a ∧ p = some b ∧ q = some c ∧ r = some d := by
  cases o <;> cases p <;> cases q <;> cases r <;> simp_all [quadO]
theorem quad_of {o p q r : Option (Int × Int × Int)} {a b c d : (Int × Int × Int)} (h1 : o = some a) (h2 : p = some b) (h3 : q = some c) (h4 : r = some d) : quadO o p q r = some (a, b, c, d) := by
  subst h1 h2 h3 h4
  rfl
/-- Both of each pair are told and the same. -/
def foldO : Bool → List (Option (Int × Int × Int) × Option (Int × Int × Int)) → Option Bool
  | s, [] => some s
  | s, (o, p) :: l => o.bind fun u => p.bind fun v => foldO (s && (u == v)) l
theorem foldO_nil (s : Bool) : foldO s [] = some s := rfl
theorem foldO_n1 (s : Bool) (p : Option (Int × Int × Int)) (l : List (Option (Int × Int × Int) × Option (Int × Int × Int))) : foldO s ((none, p) :: l) = none := rfl
theorem foldO_n2 (s : Bool) (u : (Int × Int × Int)) (l : List (Option (Int × Int × Int) × Option (Int × Int × Int))) : foldO s ((some u, none) :: l) = none := rfl
theorem foldO_on (s : Bool) (u1 u2 u3 v1 v2 v3 : Int) (l : List (Option (Int × Int × Int) × Option (Int × Int × Int))) : foldO s ((some (u1, u2, u3), some (v1, v2, v3)) :: l) = foldO (s && (u1 == v1 && u2 == v2 && u3 == v3)) l := by
  show foldO (s && ((u1, u2, u3) == (v1, v2, v3))) l = _
  rw [show ((u1, u2, u3) == (v1, v2, v3)) = (u1 == v1 && u2 == v2 && u3 == v3) by
    show (u1 == v1 && (u2 == v2 && u3 == v3)) = _
    rw [Bool.and_assoc]]
theorem prod_pair (u1 u2 u3 v1 v2 v3 s1 s2 s3 t1 t2 t3 : Int) : prodB u1 u2 u3 v1 v2 v3 s1 s2 s3 t1 t2 t3 = ((timesF u1 u2 u3 t1 t2 t3).isSome && (timesF u1 u2 u3 t1 t2 t3 == timesF v1 v2 v3 s1 s2 s3)) := rfl
theorem foldO_getD (s : Bool) (o p : Option (Int × Int × Int)) (l : List (Option (Int × Int × Int) × Option (Int × Int × Int))) (k : ∀ s, (foldO s l).getD false = (s && (foldO true l).getD false)) : (foldO s ((o, p) :: l)).getD false = (s && (o.isSome && (o == p)) && (foldO true l).getD false) := by
  cases o with
  | none => simp [foldO]
  | some u =>
    cases p with
    | none => simp [foldO]
    | some v =>
      show (foldO (s && (u == v)) l).getD false = _
      rw [k]
      rfl
theorem foldO_all : ∀ (l : List (Option (Int × Int × Int) × Option (Int × Int × Int))) (s : Bool), (foldO s l).getD false = (s && (foldO true l).getD false)
  | [], s => by simp [foldO]
  | (o, p) :: l, s => by
    rw [foldO_getD s o p l (foldO_all l), foldO_getD true o p l (foldO_all l)]
    cases s <;> simp
theorem salike_eq (a1 a2 a3 b1 b2 b3 c1 c2 c3 d1 d2 d3 i1 i2 i3 j1 j2 j3 k1 k2 k3 l1 l2 l3 : Int) : salikeF a1 a2 a3 b1 b2 b3 c1 c2 c3 d1 d2 d3 i1 i2 i3 j1 j2 j3 k1 k2 k3 l1 l2 l3 = (if (sValid a1 a2 a3 b1 b2 b3 c1 c2 c3 d1 d2 d3 && sValid i1 i2 i3 j1 j2 j3 k1 k2 k3 l1 l2 l3) = true then foldO (signI a1 == signI i1) [(timesF b1 b2 b3 i1 i2 i3, timesF a1 a2 a3 j1 j2 j3), (timesF c1 c2 c3 i1 i2 i3, timesF a1 a2 a3 k1 k2 k3), (timesF c1 c2 c3 j1 j2 j3, timesF b1 b2 b3 k1 k2 k3), (timesF d1 d2 d3 i1 i2 i3, timesF a1 a2 a3 l1 l2 l3), (timesF d1 d2 d3 j1 j2 j3, timesF b1 b2 b3 l1 l2 l3), (timesF d1 d2 d3 k1 k2 k3, timesF c1 c2 c3 l1 l2 l3)] else none).getD false := by
  unfold salikeF
  cases sValid a1 a2 a3 b1 b2 b3 c1 c2 c3 d1 d2 d3 && sValid i1 i2 i3 j1 j2 j3 k1 k2 k3 l1 l2 l3 with
  | false => simp
  | true =>
    rw [if_pos rfl]
    simp only [foldO_getD _ _ _ _ (foldO_all _), foldO_nil, Option.getD_some, Bool.and_true, Bool.true_and, prodB]
    simp only [Bool.and_assoc]
end Go.Proofs.YtnfbopaafciiiaaDoor
