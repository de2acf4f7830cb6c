/-
  Vectors, four numbers, matrices as plain mathematics: what they are.
-/
import Derived.Test.YtkdkeacfifjjoabDoorBSpecV
namespace Go.Proofs.YtkdkeacfifjjoabDoor
open Go.ChangeShapes Go.WideShapes Go.ChangeAt Go.RowKit
set_option linter.unusedVariables false

theorem bind_open {α : Type} (o : Option (Int × Int × Int)) (f : (Int × Int × Int) → Option α) : o.bind f = if okR o = true then f (partsR o) else none := by
  cases o <;> simp [okR, partsR]
def realB (x y z : Int) : Bool := okF x y z && y == 0
def sValid (a1 a2 a3 b1 b2 b3 c1 c2 c3 d1 d2 d3 : Int) : Bool := realB a1 a2 a3 && realB b1 b2 b3 && realB c1 c2 c3 && realB d1 d2 d3
def quadO (o p q r : Option (Int × Int × Int)) : Option ((Int × Int × Int) × (Int × Int × Int) × (Int × Int × Int) × (Int × Int × Int)) := o.bind fun a => p.bind fun b => q.bind fun c => r.bind fun d => some (a, b, c, d)
def sumO (o : Option (Int × Int × Int)) (p : Option (Int × Int × Int)) : Option (Int × Int × Int) := o.bind fun u => p.bind fun v => addF u.1 u.2.1 u.2.2 v.1 v.2.1 v.2.2
def squaresF (a1 a2 a3 b1 b2 b3 c1 c2 c3 d1 d2 d3 : Int) : Option (Int × Int × Int) := if sValid a1 a2 a3 b1 b2 b3 c1 c2 c3 d1 d2 d3 = true then sumO (sumO (sumO (some (0, 0, 1)) (timesF b1 b2 b3 b1 b2 b3)) (timesF c1 c2 c3 c1 c2 c3)) (timesF d1 d2 d3 d1 d2 d3) else none
def restF (a1 a2 a3 b1 b2 b3 c1 c2 c3 d1 d2 d3 : Int) : Option Int := (squaresF a1 a2 a3 b1 b2 b3 c1 c2 c3 d1 d2 d3).bind fun s => (timesF a1 a2 a3 a1 a2 a3).bind fun t => compareF t.1 t.2.1 t.2.2 s.1 s.2.1 s.2.2
def lightF (a1 a2 a3 b1 b2 b3 c1 c2 c3 d1 d2 d3 : Int) : Bool := (restF a1 a2 a3 b1 b2 b3 c1 c2 c3 d1 d2 d3).isSome && decide (0 ≤ (restF a1 a2 a3 b1 b2 b3 c1 c2 c3 d1 d2 d3).getD 0) && decide (0 ≤ a1)
def pureF (a1 a2 a3 b1 b2 b3 c1 c2 c3 d1 d2 d3 : Int) : Bool := (restF a1 a2 a3 b1 b2 b3 c1 c2 c3 d1 d2 d3).isSome && decide ((restF a1 a2 a3 b1 b2 b3 c1 c2 c3 d1 d2 d3).getD 0 = 0) && decide (0 ≤ a1)
def saddF (a1 a2 a3 b1 b2 b3 c1 c2 c3 d1 d2 d3 i1 i2 i3 j1 j2 j3 k1 k2 k3 l1 l2 l3 : Int) : Option ((Int × Int × Int) × (Int × Int × Int) × (Int × Int × Int) × (Int × Int × Int)) := if (sValid a1 a2 a3 b1 b2 b3 c1 c2 c3 d1 d2 d3 && sValid i1 i2 i3 j1 j2 j3 k1 k2 k3 l1 l2 l3) = true then quadO (addF a1 a2 a3 i1 i2 i3) (addF b1 b2 b3 j1 j2 j3) (addF c1 c2 c3 k1 k2 k3) (addF d1 d2 d3 l1 l2 l3) else none
def stimesF (a1 a2 a3 b1 b2 b3 c1 c2 c3 d1 d2 d3 q1 q2 q3 : Int) : Option ((Int × Int × Int) × (Int × Int × Int) × (Int × Int × Int) × (Int × Int × Int)) := if (sValid a1 a2 a3 b1 b2 b3 c1 c2 c3 d1 d2 d3 && realB q1 q2 q3) = true then quadO (timesF a1 a2 a3 q1 q2 q3) (timesF b1 b2 b3 q1 q2 q3) (timesF c1 c2 c3 q1 q2 q3) (timesF d1 d2 d3 q1 q2 q3) else none
def smirrorF (a1 a2 a3 b1 b2 b3 c1 c2 c3 d1 d2 d3 : Int) : Option ((Int × Int × Int) × (Int × Int × Int) × (Int × Int × Int) × (Int × Int × Int)) := if sValid a1 a2 a3 b1 b2 b3 c1 c2 c3 d1 d2 d3 = true then some ((a1, a2, a3), (b1, b2, b3), (c1, c2, c3), (-d1, d2, d3)) else none
def lessO (o : Option (Int × Int × Int)) (p : Option (Int × Int × Int)) : Option (Int × Int × Int) := o.bind fun u => p.bind fun v => lessF u.1 u.2.1 u.2.2 v.1 v.2.1 v.2.2
def crossO (x1 x2 x3 y1 y2 y3 : Int) : Option (Int × Int × Int) := (mirrorF y1 y2 y3).bind fun m => timesF x1 x2 x3 m.1 m.2.1 m.2.2
def reO (o : Option (Int × Int × Int)) : Option (Int × Int × Int) := o.bind fun c => makeF (2 * c.1) 0 c.2.2
def imO (o : Option (Int × Int × Int)) : Option (Int × Int × Int) := o.bind fun c => makeF (2 * c.2.1) 0 c.2.2
def sofF (x1 x2 x3 y1 y2 y3 : Int) : Option ((Int × Int × Int) × (Int × Int × Int) × (Int × Int × Int) × (Int × Int × Int)) := quadO (jpowF x1 x2 x3 y1 y2 y3) (lessO (powerF x1 x2 x3) (powerF y1 y2 y3)) (reO (crossO x1 x2 x3 y1 y2 y3)) (imO (crossO x1 x2 x3 y1 y2 y3))
def svecF (a1 a2 a3 b1 b2 b3 c1 c2 c3 d1 d2 d3 : Int) : Option ((Int × Int × Int) × (Int × Int × Int)) :=
  if (pureF a1 a2 a3 b1 b2 b3 c1 c2 c3 d1 d2 d3 && !(a1 == 0)) = true then
    (addF a1 a2 a3 b1 b2 b3).bind fun s => (makeF (2 * a1) 0 a3).bind fun t => (timesF d1 d2 d3 0 (-1) 1).bind fun u =>
      if s.1 = 0 then some ((0, 0, 1), t) else (addF c1 c2 c3 u.1 u.2.1 u.2.2).bind fun y => some (s, y)
  else none
/-- Two products are told and the same. -/
def prodB (u1 u2 u3 v1 v2 v3 s1 s2 s3 t1 t2 t3 : Int) : Bool := (timesF u1 u2 u3 t1 t2 t3).isSome && (timesF u1 u2 u3 t1 t2 t3 == timesF v1 v2 v3 s1 s2 s3)
def salikeF (a1 a2 a3 b1 b2 b3 c1 c2 c3 d1 d2 d3 i1 i2 i3 j1 j2 j3 k1 k2 k3 l1 l2 l3 : Int) : Bool :=
  sValid a1 a2 a3 b1 b2 b3 c1 c2 c3 d1 d2 d3 && sValid i1 i2 i3 j1 j2 j3 k1 k2 k3 l1 l2 l3 && (signI a1 == signI i1) &&
  prodB b1 b2 b3 a1 a2 a3 j1 j2 j3 i1 i2 i3 && prodB c1 c2 c3 a1 a2 a3 k1 k2 k3 i1 i2 i3 && prodB c1 c2 c3 b1 b2 b3 k1 k2 k3 j1 j2 j3 && prodB d1 d2 d3 a1 a2 a3 l1 l2 l3 i1 i2 i3 && prodB d1 d2 d3 b1 b2 b3 l1 l2 l3 j1 j2 j3 && prodB d1 d2 d3 c1 c2 c3 l1 l2 l3 k1 k2 k3
/-- A told result of four fractions; or zeros. -/
def Gave12 (o : Option ((Int × Int × Int) × (Int × Int × Int) × (Int × Int × Int) × (Int × Int × Int))) (w : World) (e : Ending) (w' : World) : Prop :=
  (∀ a1 a2 a3 b1 b2 b3 c1 c2 c3 d1 d2 d3, o = some ((a1, a2, a3), (b1, b2, b3), (c1, c2, c3), (d1, d2, d3)) → e = .returned (.tuple #[.agg #[.int .i64 a1, .int .i64 a2, .int .i64 a3, .int .i64 b1, .int .i64 b2, .int .i64 b3, .int .i64 c1, .int .i64 c2, .int .i64 c3, .int .i64 d1, .int .i64 d2, .int .i64 d3], .bool true])) ∧ (o = none → e = .returned (.tuple #[.agg #[.int .i64 0, .int .i64 0, .int .i64 0, .int .i64 0, .int .i64 0, .int .i64 0, .int .i64 0, .int .i64 0, .int .i64 0, .int .i64 0, .int .i64 0, .int .i64 0], .bool false])) ∧ Below w.heap.size w w'
theorem realB_ok {x y z : Int} (h : realB x y z = true) : okF x y z = true ∧ y = 0 := by
  unfold realB at h
  simp only [Bool.and_eq_true, beq_iff_eq] at h
  exact h
theorem sValid_ok {a1 a2 a3 b1 b2 b3 c1 c2 c3 d1 d2 d3 : Int} (h : sValid a1 a2 a3 b1 b2 b3 c1 c2 c3 d1 d2 d3 = true) : realB a1 a2 a3 = true ∧ realB b1 b2 b3 = true ∧ realB c1 c2 c3 = true ∧ realB d1 d2 d3 = true := by
  unfold sValid at h
  simp only [Bool.and_eq_true] at h
  exact ⟨h.1.1.1, h.1.1.2, h.1.2, h.2⟩
theorem quad_some {o p q r : Option (Int × Int × Int)} {a b c d : (Int × Int × Int)} (h : quadO o p q r = some (a, b, c, d)) : o = some a ∧ p = some b ∧ q = some c ∧ r = some d := by
  cases o <;> cases p <;> cases q <;> cases r <;> simp_all [quadO]
theorem quad_of {o p q r : Option (Int × Int × Int)} {a b c d : (Int × Int × Int)} (h1 : o = some a) (h2 : p = some b) (h3 : q = some c) (h4 : r = some d) : quadO o p q r = some (a, b, c, d) := by
  subst h1 h2 h3 h4
  rfl
/-- Both of each pair are told and the same. -/
def foldO : Bool → List (Option (Int × Int × Int) × Option (Int × Int × Int)) → Option Bool
  | s, [] => some s
  | s, (o, p) :: l => o.bind fun u => p.bind fun v => foldO (s && (u == v)) l
theorem foldO_nil (s : Bool) : foldO s [] = some s := rfl
theorem foldO_n1 (s : Bool) (p : Option (Int × Int × Int)) (l : List (Option (Int × Int × Int) × Option (Int × Int × Int))) : foldO s ((none, p) :: l) = none := rfl
theorem foldO_n2 (s : Bool) (u : (Int × Int × Int)) (l : List (Option (Int × Int × Int) × Option (Int × Int × Int))) : foldO s ((some u, none) :: l) = none := rfl
theorem foldO_on (s : Bool) (u1 u2 u3 v1 v2 v3 : Int) (l : List (Option (Int × Int × Int) × Option (Int × Int × Int))) : foldO s ((some (u1, u2, u3), some (v1, v2, v3)) :: l) = foldO (s && (u1 == v1 && u2 == v2 && u3 == v3)) l := by
  show foldO (s && ((u1, u2, u3) == (v1, v2, v3))) l = _
  rw [show ((u1, u2, u3) == (v1, v2, v3)) = (u1 == v1 && u2 == v2 && u3 == v3) by
    show (u1 == v1 && (u2 == v2 && u3 == v3)) = _
    rw [Bool.and_assoc]]
theorem prod_pair (u1 u2 u3 v1 v2 v3 s1 s2 s3 t1 t2 t3 : Int) : prodB u1 u2 u3 v1 v2 v3 s1 s2 s3 t1 t2 t3 = ((timesF u1 u2 u3 t1 t2 t3).isSome && (timesF u1 u2 u3 t1 t2 t3 == timesF v1 v2 v3 s1 s2 s3)) := rfl
theorem foldO_getD (s : Bool) (o p : Option (Int × Int × Int)) (l : List (Option (Int × Int × Int) × Option (Int × Int × Int))) (k : ∀ s, (foldO s l).getD false = (s && (foldO true l).getD false)) : (foldO s ((o, p) :: l)).getD false = (s && (o.isSome && (o == p)) && (foldO true l).getD false) := by
  cases o with
  | none => simp [foldO]
  | some u =>
    cases p with
    | none => simp [foldO]
    | some v =>
      show (foldO (s && (u == v)) l).getD false = _
      rw [k]
      rfl
theorem foldO_all : ∀ (l : List (Option (Int × Int × Int) × Option (Int × Int × Int))) (s : Bool), (foldO s l).getD false = (s && (foldO true l).getD false)
  | [], s => by simp [foldO]
  | (o, p) :: l, s => by
    rw [foldO_getD s o p l (foldO_all l), foldO_getD true o p l (foldO_all l)]
    cases s <;> simp
theorem salike_eq (a1 a2 a3 b1 b2 b3 c1 c2 c3 d1 d2 d3 i1 i2 i3 j1 j2 j3 k1 k2 k3 l1 l2 l3 : Int) : salikeF a1 a2 a3 b1 b2 b3 c1 c2 c3 d1 d2 d3 i1 i2 i3 j1 j2 j3 k1 k2 k3 l1 l2 l3 = (if (sValid a1 a2 a3 b1 b2 b3 c1 c2 c3 d1 d2 d3 && sValid i1 i2 i3 j1 j2 j3 k1 k2 k3 l1 l2 l3) = true then foldO (signI a1 == signI i1) [(timesF b1 b2 b3 i1 i2 i3, timesF a1 a2 a3 j1 j2 j3), (timesF c1 c2 c3 i1 i2 i3, timesF a1 a2 a3 k1 k2 k3), (timesF c1 c2 c3 j1 j2 j3, timesF b1 b2 b3 k1 k2 k3), (timesF d1 d2 d3 i1 i2 i3, timesF a1 a2 a3 l1 l2 l3), (timesF d1 d2 d3 j1 j2 j3, timesF b1 b2 b3 l1 l2 l3), (timesF d1 d2 d3 k1 k2 k3, timesF c1 c2 c3 l1 l2 l3)] else none).getD false := by
  unfold salikeF
  cases sValid a1 a2 a3 b1 b2 b3 c1 c2 c3 d1 d2 d3 && sValid i1 i2 i3 j1 j2 j3 k1 k2 k3 l1 l2 l3 with
  | false => simp
  | true =>
    rw [if_pos rfl]
    simp only [foldO_getD _ _ _ _ (foldO_all _), foldO_nil, Option.getD_some, Bool.and_true, Bool.true_and, prodB]
    simp only [Bool.and_assoc]

theorem svec_not {a1 a2 a3 b1 b2 b3 c1 c2 c3 d1 d2 d3 : Int} (h : pureF a1 a2 a3 b1 b2 b3 c1 c2 c3 d1 d2 d3 = false) : svecF a1 a2 a3 b1 b2 b3 c1 c2 c3 d1 d2 d3 = none := by
  unfold svecF
  rw [h]
  rfl
theorem svec_dark {a1 a2 a3 b1 b2 b3 c1 c2 c3 d1 d2 d3 : Int} (h : a1 = 0) : svecF a1 a2 a3 b1 b2 b3 c1 c2 c3 d1 d2 d3 = none := by
  unfold svecF
  rw [h]
  simp
theorem svec_parts {a1 a2 a3 b1 b2 b3 c1 c2 c3 d1 d2 d3 : Int} (hv : pureF a1 a2 a3 b1 b2 b3 c1 c2 c3 d1 d2 d3 = true) (hz : ¬ a1 = 0) : svecF a1 a2 a3 b1 b2 b3 c1 c2 c3 d1 d2 d3 = (addF a1 a2 a3 b1 b2 b3).bind fun s => (makeF (2 * a1) 0 a3).bind fun t => (timesF d1 d2 d3 0 (-1) 1).bind fun u =>
      if s.1 = 0 then some ((0, 0, 1), t) else (addF c1 c2 c3 u.1 u.2.1 u.2.2).bind fun y => some (s, y) := by
  have h0 : (!(a1 == 0)) = true := by simp [hz]
  unfold svecF
  rw [hv, h0]
  rfl
theorem sofq1 (p q r : Option (Int × Int × Int)) : quadO none p q r = none := rfl
theorem sofq2 (o q r : Option (Int × Int × Int)) : quadO o none q r = none := by cases o <;> rfl
theorem sofq3 (o p r : Option (Int × Int × Int)) : quadO o p none r = none := by cases o <;> cases p <;> rfl
theorem sofq4 (o p q : Option (Int × Int × Int)) : quadO o p q none = none := by cases o <;> cases p <;> cases q <;> rfl
theorem sof_n1 {x1 x2 x3 y1 y2 y3 : Int} (h : powerF x1 x2 x3 = none) : sofF x1 x2 x3 y1 y2 y3 = none := by
  unfold sofF jpowF
  rw [h]
  exact sofq1 _ _ _
theorem sof_n2 {x1 x2 x3 y1 y2 y3 : Int} (h : powerF y1 y2 y3 = none) : sofF x1 x2 x3 y1 y2 y3 = none := by
  unfold sofF jpowF
  rw [h]
  cases powerF x1 x2 x3 <;> exact sofq1 _ _ _
theorem sof_n3 {x1 x2 x3 y1 y2 y3 : Int} (h : mirrorF y1 y2 y3 = none) : sofF x1 x2 x3 y1 y2 y3 = none := by
  have e : crossO x1 x2 x3 y1 y2 y3 = none := by unfold crossO; rw [h]; rfl
  unfold sofF
  rw [e]
  exact sofq3 _ _ _
theorem sof_n4 {x1 x2 x3 y1 y2 y3 m1 m2 m3 : Int} (h : mirrorF y1 y2 y3 = some (m1, m2, m3)) (k : timesF x1 x2 x3 m1 m2 m3 = none) : sofF x1 x2 x3 y1 y2 y3 = none := by
  have e : crossO x1 x2 x3 y1 y2 y3 = none := by unfold crossO; rw [h]; exact k
  unfold sofF
  rw [e]
  exact sofq3 _ _ _
theorem sof_parts {x1 x2 x3 y1 y2 y3 p1 p2 p3 q1 q2 q3 m1 m2 m3 c1 c2 c3 : Int} (hp : powerF x1 x2 x3 = some (p1, p2, p3)) (hq : powerF y1 y2 y3 = some (q1, q2, q3)) (h : mirrorF y1 y2 y3 = some (m1, m2, m3)) (k : timesF x1 x2 x3 m1 m2 m3 = some (c1, c2, c3)) :
    sofF x1 x2 x3 y1 y2 y3 = quadO (addF p1 p2 p3 q1 q2 q3) (lessF p1 p2 p3 q1 q2 q3) (makeF (2 * c1) 0 c3) (makeF (2 * c2) 0 c3) := by
  have e : crossO x1 x2 x3 y1 y2 y3 = some (c1, c2, c3) := by unfold crossO; rw [h]; exact k
  unfold sofF jpowF
  rw [e, hp, hq]
  rfl

theorem le_rv {x z a c : Int} (hz : 1 ≤ z) (hc : 1 ≤ c) (h : x * c ≤ a * z) : rv x z ≤ rv a c := by
  rcases Rat.le_total (a := rv x z) (b := rv a c) with k | k
  · exact k
  · have k2 := rv_le hc hz k
    rw [(rv_eq hz hc).2 (by omega : x * c = a * z)]
    exact Rat.le_refl
theorem real0 {p q r : Int} (h : okF p q r = true) (e : rv q r = 0) : q = 0 := (rv_is0 (okF_den h)).1 e
theorem times_real {x z a c p q r : Int} (h : timesF x 0 z a 0 c = some (p, q, r)) : okF p q r = true ∧ q = 0 ∧ rv p r = rv x z * rv a c := by
  obtain ⟨_, _, k, e1, e2⟩ := times_val h
  rw [rv_zero, rv_zero] at e1 e2
  exact ⟨k, real0 k (by rw [e2]; grind), by rw [e1]; grind⟩
theorem sum_real {x z a c p q r : Int} (h : sumF 1 x 0 z a 0 c = some (p, q, r)) : okF p q r = true ∧ q = 0 ∧ rv p r = rv x z + rv a c := by
  obtain ⟨_, _, k, e1, e2⟩ := sum_val h
  rw [rv_zero, rv_zero] at e2
  exact ⟨k, real0 k (by rw [e2]; grind), e1⟩
theorem less_val {x y z a b c p q r : Int} (h : sumF (-1) x y z a b c = some (p, q, r)) : okF x y z = true ∧ okF a b c = true ∧ okF p q r = true ∧ rv p r = rv x z - rv a c ∧ rv q r = rv y z - rv b c := by
  obtain ⟨h1, h2, h3, e1, e2⟩ := sum_some h
  obtain ⟨_, _, _, f1, f2⟩ := sum_val (less_back h)
  exact ⟨h1, h2, h3, by grind, by grind⟩
theorem sumO_some {o p : Option (Int × Int × Int)} {r : Int × Int × Int} (h : sumO o p = some r) : ∃ u1 u2 u3 v1 v2 v3, o = some (u1, u2, u3) ∧ p = some (v1, v2, v3) ∧ sumF 1 u1 u2 u3 v1 v2 v3 = some r := by
  cases o with
  | none => simp [sumO] at h
  | some u =>
    cases p with
    | none => simp [sumO] at h
    | some v => exact ⟨_, _, _, _, _, _, rfl, rfl, h⟩
theorem lessO_some {o p : Option (Int × Int × Int)} {r : Int × Int × Int} (h : lessO o p = some r) : ∃ u1 u2 u3 v1 v2 v3, o = some (u1, u2, u3) ∧ p = some (v1, v2, v3) ∧ sumF (-1) u1 u2 u3 v1 v2 v3 = some r := by
  cases o with
  | none => simp [lessO] at h
  | some u =>
    cases p with
    | none => simp [lessO] at h
    | some v => exact ⟨_, _, _, _, _, _, rfl, rfl, h⟩
theorem low_told {x y d : Int} (hd : 1 ≤ d) (hd2 : d ≤ 2000000000) (hx : -2000000000 ≤ x ∧ x ≤ 2000000000) (hy : -2000000000 ≤ y ∧ y ≤ 2000000000) : ∃ p q r, lowF x y d = some (p, q, r) := by
  rw [lowF_eq hd]
  have b1 : (x.tdiv (gcd3 x y d)).natAbs ≤ x.natAbs := by rw [Int.natAbs_tdiv]; exact Nat.div_le_self _ _
  have b2 : (y.tdiv (gcd3 x y d)).natAbs ≤ y.natAbs := by rw [Int.natAbs_tdiv]; exact Nat.div_le_self _ _
  have b3 : d / (gcd3 x y d : Int) ≤ d := Int.ediv_le_self _ (by omega)
  rw [if_pos]
  · exact ⟨_, _, _, rfl⟩
  · unfold partB inB
    simp only [Bool.and_eq_true, decide_eq_true_eq]
    omega
theorem make_val {n d p q r : Int} (hd : 1 ≤ d) (h : makeF (2 * n) 0 d = some (p, q, r)) : okF p q r = true ∧ q = 0 ∧ rv p r = 2 * rv n d := by
  unfold makeF at h
  split at h
  · obtain ⟨k, e1, e2⟩ := (low_iff hd).1 h
    refine ⟨k, real0 k ?_, ?_⟩
    · rw [(rv_eq (okF_den k) hd).2 (show q * d = 0 * r by omega), rv_zero]
    · have n1 := ne0 (okF_den k)
      have n2 := ne0 hd
      have e : (p : Rat) * d = (2 * n) * r := by exact_mod_cast e1
      unfold rv
      grind
  · cases h
theorem squares_val {a1 a2 a3 b1 b2 b3 c1 c2 c3 d1 d2 d3 p q r : Int} (h : squaresF a1 a2 a3 b1 b2 b3 c1 c2 c3 d1 d2 d3 = some (p, q, r)) : sValid a1 a2 a3 b1 b2 b3 c1 c2 c3 d1 d2 d3 = true ∧ okF p q r = true ∧ q = 0 ∧ rv p r = rv b1 b3 * rv b1 b3 + rv c1 c3 * rv c1 c3 + rv d1 d3 * rv d1 d3 := by
  unfold squaresF at h
  split at h
  · rename_i hv
    obtain ⟨_, hb, hc, hd⟩ := sValid_ok hv
    obtain ⟨_, rfl⟩ := realB_ok hb
    obtain ⟨_, rfl⟩ := realB_ok hc
    obtain ⟨_, rfl⟩ := realB_ok hd
    obtain ⟨m1, m2, m3, n1, n2, n3, h3, hd3, e3⟩ := sumO_some h
    obtain ⟨g1, g2, g3, f1, f2, f3, h2, hc3, e2⟩ := sumO_some h3
    obtain ⟨w1, w2, w3, z1, z2, z3, h1, hb3, e1⟩ := sumO_some h2
    obtain ⟨⟩ := h1
    obtain ⟨_, rfl, y1⟩ := times_real hb3
    obtain ⟨_, rfl, y2⟩ := times_real hc3
    obtain ⟨_, rfl, y3⟩ := times_real hd3
    obtain ⟨_, rfl, y4⟩ := sum_real e1
    obtain ⟨_, rfl, y5⟩ := sum_real e2
    obtain ⟨k, rfl, y6⟩ := sum_real e3
    refine ⟨hv, k, rfl, ?_⟩
    rw [y6, y5, y4, y3, y2, y1, rv_zero]
    grind
  · cases h
theorem signI_ge {n : Int} : 0 ≤ signI n ↔ 0 ≤ n := by
  unfold signI
  split
  · omega
  · split <;> omega
theorem signI_is0 {n : Int} : signI n = 0 ↔ n = 0 := by
  unfold signI
  split
  · omega
  · split <;> omega
theorem rest_val {a1 a2 a3 b1 b2 b3 c1 c2 c3 d1 d2 d3 n : Int} (h : restF a1 a2 a3 b1 b2 b3 c1 c2 c3 d1 d2 d3 = some n) : sValid a1 a2 a3 b1 b2 b3 c1 c2 c3 d1 d2 d3 = true ∧ (∃ s, squaresF a1 a2 a3 b1 b2 b3 c1 c2 c3 d1 d2 d3 = some s) ∧ (∃ s, timesF a1 a2 a3 a1 a2 a3 = some s) ∧ (0 ≤ n ↔ rv b1 b3 * rv b1 b3 + rv c1 c3 * rv c1 c3 + rv d1 d3 * rv d1 d3 ≤ rv a1 a3 * rv a1 a3) ∧ (n = 0 ↔ rv a1 a3 * rv a1 a3 = rv b1 b3 * rv b1 b3 + rv c1 c3 * rv c1 c3 + rv d1 d3 * rv d1 d3) := by
  unfold restF at h
  cases hs : squaresF a1 a2 a3 b1 b2 b3 c1 c2 c3 d1 d2 d3 with
  | none => rw [hs] at h; cases h
  | some s =>
    cases ht : timesF a1 a2 a3 a1 a2 a3 with
    | none => rw [hs, ht] at h; cases h
    | some t =>
      rw [hs, ht] at h
      obtain ⟨s1, s2, s3⟩ := s
      obtain ⟨t1, t2, t3⟩ := t
      obtain ⟨hv, ks, rfl, es⟩ := squares_val hs
      obtain ⟨_, rfl⟩ := realB_ok (sValid_ok hv).1
      obtain ⟨kt, rfl, et⟩ := times_real ht
      obtain ⟨_, _, _, _, rfl⟩ := compare_some h
      refine ⟨hv, ⟨_, rfl⟩, ⟨_, rfl⟩, ?_, ?_⟩ <;> dsimp only
      · rw [signI_ge, ← es, ← et]
        constructor
        · intro g
          exact le_rv (okF_den ks) (okF_den kt) (by omega)
        · intro g
          have := rv_le (okF_den ks) (okF_den kt) g
          omega
      · rw [signI_is0, ← es, ← et, rv_eq (okF_den kt) (okF_den ks)]
        omega
theorem rest_of {a1 a2 a3 b1 b2 b3 c1 c2 c3 d1 d2 d3 : Int} {s t : (Int × Int × Int)} (hs : squaresF a1 a2 a3 b1 b2 b3 c1 c2 c3 d1 d2 d3 = some s) (ht : timesF a1 a2 a3 a1 a2 a3 = some t) : ∃ n, restF a1 a2 a3 b1 b2 b3 c1 c2 c3 d1 d2 d3 = some n := by
  obtain ⟨s1, s2, s3⟩ := s
  obtain ⟨t1, t2, t3⟩ := t
  obtain ⟨hv, ks, rfl, es⟩ := squares_val hs
  obtain ⟨_, rfl⟩ := realB_ok (sValid_ok hv).1
  obtain ⟨kt, rfl, et⟩ := times_real ht
  refine ⟨signI (t1 * s3 - s1 * t3), ?_⟩
  unfold restF
  rw [hs, ht]
  simp only [Option.bind_some]
  unfold compareF
  rw [ks, kt]
  simp
theorem light_val {a1 a2 a3 b1 b2 b3 c1 c2 c3 d1 d2 d3 : Int} (h : lightF a1 a2 a3 b1 b2 b3 c1 c2 c3 d1 d2 d3 = true) : sValid a1 a2 a3 b1 b2 b3 c1 c2 c3 d1 d2 d3 = true ∧ (∃ s, squaresF a1 a2 a3 b1 b2 b3 c1 c2 c3 d1 d2 d3 = some s) ∧ (∃ s, timesF a1 a2 a3 a1 a2 a3 = some s) ∧ rv b1 b3 * rv b1 b3 + rv c1 c3 * rv c1 c3 + rv d1 d3 * rv d1 d3 ≤ rv a1 a3 * rv a1 a3 ∧ 0 ≤ rv a1 a3 ∧ 0 ≤ a1 := by
  unfold lightF at h
  simp only [Bool.and_eq_true, decide_eq_true_eq] at h
  obtain ⟨⟨h1, h2⟩, h3⟩ := h
  obtain ⟨n, hn⟩ := Option.isSome_iff_exists.1 h1
  rw [hn] at h2
  obtain ⟨hv, hs, ht, e, _⟩ := rest_val hn
  exact ⟨hv, hs, ht, e.1 h2, (rv_nonneg (okF_den (realB_ok (sValid_ok hv).1).1)).2 h3, h3⟩
theorem light_of {a1 a2 a3 b1 b2 b3 c1 c2 c3 d1 d2 d3 : Int} {s t : (Int × Int × Int)} (hs : squaresF a1 a2 a3 b1 b2 b3 c1 c2 c3 d1 d2 d3 = some s) (ht : timesF a1 a2 a3 a1 a2 a3 = some t) (e : rv b1 b3 * rv b1 b3 + rv c1 c3 * rv c1 c3 + rv d1 d3 * rv d1 d3 ≤ rv a1 a3 * rv a1 a3) (h : 0 ≤ rv a1 a3) : lightF a1 a2 a3 b1 b2 b3 c1 c2 c3 d1 d2 d3 = true := by
  obtain ⟨n, hn⟩ := rest_of hs ht
  obtain ⟨hv, _, _, e1, _⟩ := rest_val hn
  have h3 := (rv_nonneg (okF_den (realB_ok (sValid_ok hv).1).1)).1 h
  unfold lightF
  rw [hn]
  simp only [Option.isSome_some, Option.getD_some, Bool.true_and, Bool.and_eq_true, decide_eq_true_eq]
  exact ⟨e1.2 e, h3⟩
theorem pure_val {a1 a2 a3 b1 b2 b3 c1 c2 c3 d1 d2 d3 : Int} (h : pureF a1 a2 a3 b1 b2 b3 c1 c2 c3 d1 d2 d3 = true) : sValid a1 a2 a3 b1 b2 b3 c1 c2 c3 d1 d2 d3 = true ∧ (∃ s, squaresF a1 a2 a3 b1 b2 b3 c1 c2 c3 d1 d2 d3 = some s) ∧ (∃ s, timesF a1 a2 a3 a1 a2 a3 = some s) ∧ rv a1 a3 * rv a1 a3 = rv b1 b3 * rv b1 b3 + rv c1 c3 * rv c1 c3 + rv d1 d3 * rv d1 d3 ∧ 0 ≤ rv a1 a3 := by
  unfold pureF at h
  simp only [Bool.and_eq_true, decide_eq_true_eq] at h
  obtain ⟨⟨h1, h2⟩, h3⟩ := h
  obtain ⟨n, hn⟩ := Option.isSome_iff_exists.1 h1
  rw [hn] at h2
  obtain ⟨hv, hs, ht, _, e⟩ := rest_val hn
  exact ⟨hv, hs, ht, e.1 h2, (rv_nonneg (okF_den (realB_ok (sValid_ok hv).1).1)).2 h3⟩
theorem pure_of {a1 a2 a3 b1 b2 b3 c1 c2 c3 d1 d2 d3 : Int} {s t : (Int × Int × Int)} (hs : squaresF a1 a2 a3 b1 b2 b3 c1 c2 c3 d1 d2 d3 = some s) (ht : timesF a1 a2 a3 a1 a2 a3 = some t) (e : rv a1 a3 * rv a1 a3 = rv b1 b3 * rv b1 b3 + rv c1 c3 * rv c1 c3 + rv d1 d3 * rv d1 d3) (h : 0 ≤ rv a1 a3) : pureF a1 a2 a3 b1 b2 b3 c1 c2 c3 d1 d2 d3 = true := by
  obtain ⟨n, hn⟩ := rest_of hs ht
  obtain ⟨hv, _, _, _, e1⟩ := rest_val hn
  have h3 := (rv_nonneg (okF_den (realB_ok (sValid_ok hv).1).1)).1 h
  unfold pureF
  rw [hn]
  simp only [Option.isSome_some, Option.getD_some, Bool.true_and, Bool.and_eq_true, decide_eq_true_eq]
  exact ⟨e1.2 e, h3⟩
theorem pure_light {a1 a2 a3 b1 b2 b3 c1 c2 c3 d1 d2 d3 : Int} (h : pureF a1 a2 a3 b1 b2 b3 c1 c2 c3 d1 d2 d3 = true) : lightF a1 a2 a3 b1 b2 b3 c1 c2 c3 d1 d2 d3 = true := by
  obtain ⟨_, ⟨_, hs⟩, ⟨_, ht⟩, e, p⟩ := pure_val h
  refine light_of hs ht ?_ p
  rw [e]; exact Rat.le_refl

/-- A fraction's three numbers. -/
abbrev F3 := Int × Int × Int
abbrev F4 := F3 × F3 × F3 × F3
def okT (u : F3) : Bool := okF u.1 u.2.1 u.2.2
def reT (u : F3) : Rat := rv u.1 u.2.2
def imT (u : F3) : Rat := rv u.2.1 u.2.2
def tT (u v : F3) : Option F3 := timesF u.1 u.2.1 u.2.2 v.1 v.2.1 v.2.2
def sT (u v : F3) : Option F3 := addF u.1 u.2.1 u.2.2 v.1 v.2.1 v.2.2
def lT (u v : F3) : Option F3 := lessF u.1 u.2.1 u.2.2 v.1 v.2.1 v.2.2
def cT (u : F3) : Option F3 := mirrorF u.1 u.2.1 u.2.2
/-- A fraction mirrored. -/
def barT (u : F3) : F3 := (u.1, -u.2.1, u.2.2)
theorem uniqT {u v : F3} (h : okT u = true) (k : okT v = true) (e : reT u = reT v) (f : imT u = imT v) : u = v := by
  obtain ⟨u1, u2, u3⟩ := u
  obtain ⟨v1, v2, v3⟩ := v
  exact uniqV h k e f
theorem tT_val {u v w : F3} (h : tT u v = some w) : okT u = true ∧ okT v = true ∧ okT w = true ∧ reT w = reT u * reT v - imT u * imT v ∧ imT w = reT u * imT v + imT u * reT v := by
  obtain ⟨w1, w2, w3⟩ := w
  exact times_val h
theorem tT_of {u v w : F3} (h1 : okT u = true) (h2 : okT v = true) (h3 : okT w = true) (e : reT w = reT u * reT v - imT u * imT v) (f : imT w = reT u * imT v + imT u * reT v) : tT u v = some w := by
  obtain ⟨w1, w2, w3⟩ := w
  exact times_ofV h1 h2 h3 e f
theorem sT_val {u v w : F3} (h : sT u v = some w) : okT u = true ∧ okT v = true ∧ okT w = true ∧ reT w = reT u + reT v ∧ imT w = imT u + imT v := by
  obtain ⟨w1, w2, w3⟩ := w
  exact sum_val h
theorem sT_of {u v w : F3} (h1 : okT u = true) (h2 : okT v = true) (h3 : okT w = true) (e : reT w = reT u + reT v) (f : imT w = imT u + imT v) : sT u v = some w := by
  obtain ⟨w1, w2, w3⟩ := w
  exact sum_ofV h1 h2 h3 e f
theorem lT_val {u v w : F3} (h : lT u v = some w) : okT u = true ∧ okT v = true ∧ okT w = true ∧ reT w = reT u - reT v ∧ imT w = imT u - imT v := by
  obtain ⟨w1, w2, w3⟩ := w
  exact less_val h
theorem less_ofV {x y z a b c p q r : Int} (h1 : okF x y z = true) (h2 : okF a b c = true) (h3 : okF p q r = true) (e1 : rv p r = rv x z - rv a c) (e2 : rv q r = rv y z - rv b c) : sumF (-1) x y z a b c = some (p, q, r) := by
  have hz := ne0 (okF_den h1)
  have hc := ne0 (okF_den h2)
  have hr := ne0 (okF_den h3)
  unfold rv at e1 e2
  refine sum_of h1 h2 h3 ?_ ?_
  · have : (p : Rat) * (z * c) = (x * c - a * z) * r := by grind
    have k : p * (z * c) = (x * c - a * z) * r := by exact_mod_cast this
    rw [k]; grind
  · have : (q : Rat) * (z * c) = (y * c - b * z) * r := by grind
    have k : q * (z * c) = (y * c - b * z) * r := by exact_mod_cast this
    rw [k]; grind
theorem lT_of {u v w : F3} (h1 : okT u = true) (h2 : okT v = true) (h3 : okT w = true) (e : reT w = reT u - reT v) (f : imT w = imT u - imT v) : lT u v = some w := by
  obtain ⟨w1, w2, w3⟩ := w
  exact less_ofV h1 h2 h3 e f
theorem okT_bar (u : F3) : okT (barT u) = okT u := okF_neg1 _ _ _
theorem reT_bar (u : F3) : reT (barT u) = reT u := rfl
theorem imT_bar (u : F3) : imT (barT u) = -imT u := rv_neg _ _
theorem bar_bar (u : F3) : barT (barT u) = u := by
  obtain ⟨a, b, c⟩ := u
  simp [barT]
theorem cT_some {u v : F3} (h : cT u = some v) : okT u = true ∧ v = barT u := by
  unfold cT mirrorF at h
  split at h
  · rename_i hk
    exact ⟨hk, (Option.some.inj h).symm⟩
  · cases h
theorem cT_of {u : F3} (h : okT u = true) : cT u = some (barT u) := by
  unfold cT mirrorF
  rw [if_pos (show okF u.1 u.2.1 u.2.2 = true from h)]
  rfl
theorem cT_not {u : F3} (h : okT u = false) : cT u = none := by
  unfold cT mirrorF
  rw [if_neg (by rw [show okF u.1 u.2.1 u.2.2 = false from h]; decide)]
theorem tT_not1 {u v : F3} (h : okT u = false) : tT u v = none := by
  cases e : tT u v with
  | none => rfl
  | some w => rw [(tT_val e).1] at h; cases h
theorem tT_not2 {u v : F3} (h : okT v = false) : tT u v = none := by
  cases e : tT u v with
  | none => rfl
  | some w => rw [(tT_val e).2.1] at h; cases h
/-- Two products added up. -/
def inT (u v x y : F3) : Option F3 := innF u.1 u.2.1 u.2.2 v.1 v.2.1 v.2.2 x.1 x.2.1 x.2.2 y.1 y.2.1 y.2.2
theorem inT_some {u v x y w : F3} (h : inT u v x y = some w) : ∃ m n, tT u v = some m ∧ tT x y = some n ∧ sT m n = some w := by
  obtain ⟨u1, u2, u3, v1, v2, v3, h1, h2, h3⟩ := addO_some h
  exact ⟨(u1, u2, u3), (v1, v2, v3), h1, h2, h3⟩
theorem inT_of {u v x y m n w : F3} (h1 : tT u v = some m) (h2 : tT x y = some n) (h3 : sT m n = some w) : inT u v x y = some w := by
  obtain ⟨u1, u2, u3⟩ := m
  obtain ⟨v1, v2, v3⟩ := n
  exact addO_of h1 h2 h3
theorem inT_val {u v x y w : F3} (h : inT u v x y = some w) : okT u = true ∧ okT v = true ∧ okT x = true ∧ okT y = true ∧ okT w = true ∧
    reT w = reT u * reT v - imT u * imT v + (reT x * reT y - imT x * imT y) ∧ imT w = reT u * imT v + imT u * reT v + (reT x * imT y + imT x * reT y) := by
  obtain ⟨m, n, h1, h2, h3⟩ := inT_some h
  obtain ⟨a1, a2, a3, a4, a5⟩ := tT_val h1
  obtain ⟨b1, b2, b3, b4, b5⟩ := tT_val h2
  obtain ⟨c1, c2, c3, c4, c5⟩ := sT_val h3
  exact ⟨a1, a2, b1, b2, c3, by rw [c4, a4, b4], by rw [c5, a5, b5]⟩
theorem okT_zero : okT (0, 0, 1) = true := by decide
theorem okT_one : okT (1, 0, 1) = true := by decide
theorem reT_zero : reT (0, 0, 1) = 0 := rv_zero 1
theorem imT_zero : imT (0, 0, 1) = 0 := rv_zero 1
theorem reT_one : reT (1, 0, 1) = 1 := rv_one 1
theorem imT_one : imT (1, 0, 1) = 0 := rv_zero 1
theorem tT_one {u : F3} (h : okT u = true) : tT u (1, 0, 1) = some u := tT_of h okT_one h (by rw [reT_one, imT_one]; grind) (by rw [reT_one, imT_one]; grind)
theorem tT_one' {u : F3} (h : okT u = true) : tT (1, 0, 1) u = some u := tT_of okT_one h h (by rw [reT_one, imT_one]; grind) (by rw [reT_one, imT_one]; grind)
theorem tT_zero {u : F3} (h : okT u = true) : tT u (0, 0, 1) = some (0, 0, 1) := tT_of h okT_zero okT_zero (by rw [reT_zero, imT_zero]; grind) (by rw [reT_zero, imT_zero]; grind)
theorem tT_zero' {u : F3} (h : okT u = true) : tT (0, 0, 1) u = some (0, 0, 1) := tT_of okT_zero h okT_zero (by rw [reT_zero, imT_zero]; grind) (by rw [reT_zero, imT_zero]; grind)
theorem sT_zero {u : F3} (h : okT u = true) : sT u (0, 0, 1) = some u := sT_of h okT_zero h (by rw [reT_zero]; grind) (by rw [imT_zero]; grind)
theorem sT_zero' {u : F3} (h : okT u = true) : sT (0, 0, 1) u = some u := sT_of okT_zero h h (by rw [reT_zero]; grind) (by rw [imT_zero]; grind)
theorem tT_comm (u v : F3) : tT u v = tT v u := by
  cases h : tT u v with
  | none =>
    cases k : tT v u with
    | none => rfl
    | some w => obtain ⟨a, b, c, d, e⟩ := tT_val k; rw [tT_of b a c (by grind) (by grind)] at h; cases h
  | some w => obtain ⟨a, b, c, d, e⟩ := tT_val h; exact (tT_of b a c (by grind) (by grind)).symm
/-- What a fraction is that is 0. -/
theorem isz {u : F3} (h : okT u = true) : (u.1 = 0 ∧ u.2.1 = 0) ↔ (reT u = 0 ∧ imT u = 0) :=
  and_congr (rv_is0 (okF_den h)).symm (rv_is0 (okF_den h)).symm
theorem quad_n1 (p q r : Option F3) : quadO none p q r = none := rfl
theorem quad_n2 (o q r : Option F3) : quadO o none q r = none := by cases o <;> rfl
theorem quad_n3 (o p r : Option F3) : quadO o p none r = none := by cases o <;> cases p <;> rfl
theorem quad_n4 (o p q : Option F3) : quadO o p q none = none := by cases o <;> cases p <;> cases q <;> rfl

def okM (A : F4) : Bool := okT A.1 && okT A.2.1 && okT A.2.2.1 && okT A.2.2.2
def mulM (A B : F4) : Option F4 := quadO (inT A.1 B.1 A.2.1 B.2.2.1) (inT A.1 B.2.1 A.2.1 B.2.2.2) (inT A.2.2.1 B.1 A.2.2.2 B.2.2.1) (inT A.2.2.1 B.2.1 A.2.2.2 B.2.2.2)
def adjM (A : F4) : Option F4 := quadO (cT A.1) (cT A.2.2.1) (cT A.2.1) (cT A.2.2.2)
def appM (A : F4) (V : F3 × F3) : Option (F3 × F3) := pairO (inT A.1 V.1 A.2.1 V.2) (inT A.2.2.1 V.1 A.2.2.2 V.2)
def detM (A : F4) : Option F3 := lessO (tT A.1 A.2.2.2) (tT A.2.1 A.2.2.1)
def oneM : F4 := ((1, 0, 1), (0, 0, 1), (0, 0, 1), (1, 0, 1))
def losM (A : F4) : Bool := (adjM A).bind (mulM A) == some oneM
def darkM (A : F4) : Bool := A.1.1 == 0 && A.1.2.1 == 0 && A.2.1.1 == 0 && A.2.1.2.1 == 0 && A.2.2.1.1 == 0 && A.2.2.1.2.1 == 0 && A.2.2.2.1 == 0 && A.2.2.2.2.1 == 0
/-- Both products are told and the same. -/
def crsM (u v s t : F3) : Bool := (tT u t).isSome && (tT u t == tT v s)
def alkM (A B : F4) : Bool :=
  okM A && okM B && (darkM A == darkM B) && crsM A.2.1 A.1 B.2.1 B.1 && crsM A.2.2.1 A.1 B.2.2.1 B.1 && crsM A.2.2.1 A.2.1 B.2.2.1 B.2.1 && crsM A.2.2.2 A.1 B.2.2.2 B.1 && crsM A.2.2.2 A.2.1 B.2.2.2 B.2.1 && crsM A.2.2.2 A.2.2.1 B.2.2.2 B.2.2.1
def dirB (p q : Int) : Bool := inB p (-100) 100 && inB q (-100) 100 && !(p == 0 && q == 0)
/-- A direction's c and s. -/
def dirC (p q : Int) : F3 := partsR (makeF (p * p - q * q) 0 (p * p + q * q))
def dirS (p q : Int) : F3 := partsR (makeF (2 * p * q) 0 (p * p + q * q))
def negT (u : F3) : F3 := (0 - u.1, 0, u.2.2)
def rotM (p q : Int) : Option F4 := if dirB p q = true then some (dirC p q, negT (dirS p q), dirS p q, dirC p q) else none
def phaT (k : Int) : F3 := if k = 0 then (1, 0, 1) else if k = 1 then (0, 1, 1) else if k = 2 then (-1, 0, 1) else (0, -1, 1)
def diaM (u : F3) : F4 := ((1, 0, 1), (0, 0, 1), (0, 0, 1), u)
def plaM (p q k : Int) : Option F4 := if inB k 0 3 = true then (rotM p q).bind fun R => (adjM R).bind fun B => (mulM R (diaM (phaT k))).bind fun X => mulM X B else none
def filM (p q : Int) : Option F4 := if dirB p q = true then (tT (dirC p q) (dirC p q)).bind fun a => (tT (dirC p q) (dirS p q)).bind fun b => (tT (dirS p q) (dirS p q)).bind fun d => some (a, b, b, d) else none
def sclM (A : F4) (c : F3) : Option F4 := quadO (tT A.1 c) (tT A.2.1 c) (tT A.2.2.1 c) (tT A.2.2.2 c)
theorem okM_of {a b c d : F3} (h : okM (a, b, c, d) = true) : okT a = true ∧ okT b = true ∧ okT c = true ∧ okT d = true := by
  unfold okM at h
  simp only [Bool.and_eq_true] at h
  exact ⟨h.1.1.1, h.1.1.2, h.1.2, h.2⟩
theorem okM_mk {a b c d : F3} (h1 : okT a = true) (h2 : okT b = true) (h3 : okT c = true) (h4 : okT d = true) : okM (a, b, c, d) = true := by
  unfold okM
  simp only [h1, h2, h3, h4, Bool.and_self]
theorem mulM_some {a b c d i j k l w x y z : F3} (h : mulM (a, b, c, d) (i, j, k, l) = some (w, x, y, z)) : inT a i b k = some w ∧ inT a j b l = some x ∧ inT c i d k = some y ∧ inT c j d l = some z := quad_some h
theorem mulM_not1 {A B : F4} (h : okM A = false) : mulM A B = none := by
  obtain ⟨a, b, c, d⟩ := A
  obtain ⟨i, j, k, l⟩ := B
  cases e : mulM (a, b, c, d) (i, j, k, l) with
  | none => rfl
  | some r =>
    obtain ⟨w, x, y, z⟩ := r
    obtain ⟨e1, e2, e3, e4⟩ := mulM_some e
    obtain ⟨h1, -, h2, -⟩ := inT_val e1
    obtain ⟨h3, -, h4, -⟩ := inT_val e3
    rw [okM_mk h1 h2 h3 h4] at h
    cases h
theorem mulM_not2 {A B : F4} (h : okM B = false) : mulM A B = none := by
  obtain ⟨a, b, c, d⟩ := A
  obtain ⟨i, j, k, l⟩ := B
  cases e : mulM (a, b, c, d) (i, j, k, l) with
  | none => rfl
  | some r =>
    obtain ⟨w, x, y, z⟩ := r
    obtain ⟨e1, e2, e3, e4⟩ := mulM_some e
    obtain ⟨-, h1, -, h3, -⟩ := inT_val e1
    obtain ⟨-, h2, -, h4, -⟩ := inT_val e2
    rw [okM_mk h1 h2 h3 h4] at h
    cases h
theorem mulM_ok {A B C : F4} (h : mulM A B = some C) : okM A = true ∧ okM B = true ∧ okM C = true := by
  refine ⟨?_, ?_, ?_⟩
  · cases e : okM A with
    | true => rfl
    | false => rw [mulM_not1 e] at h; cases h
  · cases e : okM B with
    | true => rfl
    | false => rw [mulM_not2 e] at h; cases h
  · obtain ⟨a, b, c, d⟩ := A
    obtain ⟨i, j, k, l⟩ := B
    obtain ⟨w, x, y, z⟩ := C
    obtain ⟨e1, e2, e3, e4⟩ := mulM_some h
    exact okM_mk (inT_val e1).2.2.2.2.1 (inT_val e2).2.2.2.2.1 (inT_val e3).2.2.2.2.1 (inT_val e4).2.2.2.2.1
theorem appM_not1 {A : F4} {V : F3 × F3} (h : okM A = false) : appM A V = none := by
  obtain ⟨a, b, c, d⟩ := A
  obtain ⟨x, y⟩ := V
  cases e : appM (a, b, c, d) (x, y) with
  | none => rfl
  | some r =>
    obtain ⟨e1, e2⟩ := pair_some (u := r.1) (v := r.2) e
    obtain ⟨h1, -, h2, -⟩ := inT_val e1
    obtain ⟨h3, -, h4, -⟩ := inT_val e2
    rw [okM_mk h1 h2 h3 h4] at h
    cases h
theorem appM_some {a b c d x y u v : F3} (h : appM (a, b, c, d) (x, y) = some (u, v)) : inT a x b y = some u ∧ inT c x d y = some v := pair_some h
theorem appM_not2 {A : F4} {x y : F3} (h : (okT x && okT y) = false) : appM A (x, y) = none := by
  obtain ⟨a, b, c, d⟩ := A
  cases e : appM (a, b, c, d) (x, y) with
  | none => rfl
  | some r =>
    obtain ⟨e1, e2⟩ := pair_some (u := r.1) (v := r.2) e
    obtain ⟨-, h1, -, h2, -⟩ := inT_val e1
    have h1' : okT x = true := h1
    have h2' : okT y = true := h2
    rw [h1', h2'] at h
    cases h
theorem adjM_some {a b c d : F3} {r : F4} (h : adjM (a, b, c, d) = some r) : okM (a, b, c, d) = true ∧ r = (barT a, barT c, barT b, barT d) := by
  obtain ⟨w, x, y, z⟩ := r
  obtain ⟨e1, e2, e3, e4⟩ := quad_some h
  obtain ⟨h1, rfl⟩ := cT_some e1
  obtain ⟨h2, rfl⟩ := cT_some e2
  obtain ⟨h3, rfl⟩ := cT_some e3
  obtain ⟨h4, rfl⟩ := cT_some e4
  exact ⟨okM_mk h1 h3 h2 h4, rfl⟩
theorem adjM_of {a b c d : F3} (h : okM (a, b, c, d) = true) : adjM (a, b, c, d) = some (barT a, barT c, barT b, barT d) := by
  obtain ⟨h1, h2, h3, h4⟩ := okM_of h
  exact quad_of (cT_of h1) (cT_of h3) (cT_of h2) (cT_of h4)
theorem adjM_ok {A B : F4} (h : adjM A = some B) : okM A = true ∧ okM B = true := by
  obtain ⟨a, b, c, d⟩ := A
  obtain ⟨h1, rfl⟩ := adjM_some h
  obtain ⟨k1, k2, k3, k4⟩ := okM_of h1
  exact ⟨h1, okM_mk (by rw [okT_bar]; exact k1) (by rw [okT_bar]; exact k3) (by rw [okT_bar]; exact k2) (by rw [okT_bar]; exact k4)⟩
theorem sclM_some {a b c d q w x y z : F3} (h : sclM (a, b, c, d) q = some (w, x, y, z)) : tT a q = some w ∧ tT b q = some x ∧ tT c q = some y ∧ tT d q = some z := quad_some h
theorem sclM_not {A : F4} {q : F3} (h : okM A = false) : sclM A q = none := by
  obtain ⟨a, b, c, d⟩ := A
  cases e : sclM (a, b, c, d) q with
  | none => rfl
  | some r =>
    obtain ⟨w, x, y, z⟩ := r
    obtain ⟨e1, e2, e3, e4⟩ := sclM_some e
    rw [okM_mk (tT_val e1).1 (tT_val e2).1 (tT_val e3).1 (tT_val e4).1] at h
    cases h
theorem sclM_ok {A B : F4} {q : F3} (h : sclM A q = some B) : okM A = true ∧ okM B = true := by
  obtain ⟨a, b, c, d⟩ := A
  obtain ⟨w, x, y, z⟩ := B
  obtain ⟨e1, e2, e3, e4⟩ := sclM_some h
  exact ⟨okM_mk (tT_val e1).1 (tT_val e2).1 (tT_val e3).1 (tT_val e4).1, okM_mk (tT_val e1).2.2.1 (tT_val e2).2.2.1 (tT_val e3).2.2.1 (tT_val e4).2.2.1⟩
theorem lossM_some {A : F4} (h : losM A = true) : ∃ B, adjM A = some B ∧ mulM A B = some oneM := by
  unfold losM at h
  cases e : adjM A with
  | none => rw [e] at h; simp at h
  | some B => rw [e] at h; exact ⟨B, rfl, by simpa using h⟩
theorem losM_of {A B : F4} (h : adjM A = some B) (k : mulM A B = some oneM) : losM A = true := by
  unfold losM
  rw [h]
  simp [k]
theorem detM_some {a b c d r : F3} (h : detM (a, b, c, d) = some r) : ∃ x y, tT a d = some x ∧ tT b c = some y ∧ lT x y = some r := by
  obtain ⟨r1, r2, r3⟩ := r
  obtain ⟨u1, u2, u3, v1, v2, v3, h1, h2, h3⟩ := lessO_some h
  exact ⟨(u1, u2, u3), (v1, v2, v3), h1, h2, h3⟩
theorem detM_val {a b c d r : F3} (h : detM (a, b, c, d) = some r) : okM (a, b, c, d) = true ∧ okT r = true ∧
    reT r = reT a * reT d - imT a * imT d - (reT b * reT c - imT b * imT c) ∧ imT r = reT a * imT d + imT a * reT d - (reT b * imT c + imT b * reT c) := by
  obtain ⟨x, y, h1, h2, h3⟩ := detM_some h
  obtain ⟨a1, a2, a3, a4, a5⟩ := tT_val h1
  obtain ⟨b1, b2, b3, b4, b5⟩ := tT_val h2
  obtain ⟨c1, c2, c3, c4, c5⟩ := lT_val h3
  exact ⟨okM_mk a1 b1 b2 a2, c3, by rw [c4, a4, b4], by rw [c5, a5, b5]⟩
theorem pair_n2 (o : Option F3) : pairO o none = none := by simp [pairO, okR]
theorem lessO_n2 (o : Option F3) : lessO o none = none := by cases o <;> rfl
theorem im0 {u : F3} (h : u.2.1 = 0) : imT u = 0 := by
  unfold imT
  rw [h, rv_zero]
end Go.Proofs.YtkdkeacfifjjoabDoor
