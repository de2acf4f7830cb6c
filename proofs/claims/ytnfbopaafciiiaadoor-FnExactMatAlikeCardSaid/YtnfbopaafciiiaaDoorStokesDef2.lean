/-
  Four numbers of light: plain functions, by their parts.
-/
import Derived.Test.YtnfbopaafciiiaaDoorStokesDef
namespace Go.Proofs.YtnfbopaafciiiaaDoor
open Go.ChangeShapes Go.WideShapes Go.ChangeAt Go.RowKit
set_option linter.unusedVariables false

theorem svec_not {a1 a2 a3 b1 b2 b3 c1 c2 c3 d1 d2 d3 : Int} (h : pureF a1 a2 a3 b1 b2 b3 c1 c2 c3 d1 d2 d3 = false) : svecF a1 a2 a3 b1 b2 b3 c1 c2 c3 d1 d2 d3 = none := by
  unfold svecF
  rw [h]
  rfl
theorem svec_dark {a1 a2 a3 b1 b2 b3 c1 c2 c3 d1 d2 d3 : Int} (h : a1 = 0) : svecF a1 a2 a3 b1 b2 b3 c1 c2 c3 d1 d2 d3 = none := by
  unfold svecF
  rw [h]
  simp
theorem svec_parts {a1 a2 a3 b1 b2 b3 c1 c2 c3 d1 d2 d3 : Int} (hv : pureF a1 a2 a3 b1 b2 b3 c1 c2 c3 d1 d2 d3 = true) (hz : ¬ a1 = 0) : svecF a1 a2 a3 b1 b2 b3 c1 c2 c3 d1 d2 d3 = (addF a1 a2 a3 b1 b2 b3).bind fun s => (makeF (2 * a1) 0 a3).bind fun t => (timesF d1 d2 d3 0 (-1) 1).bind fun u =>
      if s.1 = 0 then some ((0, 0, 1), t) else (addF c1 c2 c3 u.1 u.2.1 u.2.2).bind fun y => some (s, y) := by
  have h0 : (!(a1 == 0)) = true := by simp [hz]
  unfold svecF
  rw [hv, h0]
  rfl
theorem sofq1 (p q r : Option (Int × Int × Int)) : quadO none p q r = none := rfl
theorem sofq2 (o q r : Option (Int × Int × Int)) : quadO o none q r = none := by cases o <;> rfl
theorem sofq3 (o p r : Option (Int × Int × Int)) : quadO o p none r = none := by cases o <;> cases p <;> rfl
theorem sofq4 (o p q : Option (Int × Int × Int)) : quadO o p q none = none := by cases o <;> cases p <;> cases q <;> rfl
theorem sof_n1 {x1 x2 x3 y1 y2 y3 : Int} (h : powerF x1 x2 x3 = none) : sofF x1 x2 x3 y1 y2 y3 = none := by
  unfold sofF jpowF
  rw [h]
  exact sofq1 _ _ _
theorem sof_n2 {x1 x2 x3 y1 y2 y3 : Int} (h : powerF y1 y2 y3 = none) : sofF x1 x2 x3 y1 y2 y3 = none := by
  unfold sofF jpowF
  rw [h]
  cases powerF x1 x2 x3 <;> exact sofq1 _ _ _
theorem sof_n3 {x1 x2 x3 y1 y2 y3 : Int} (h : mirrorF y1 y2 y3 = none) : sofF x1 x2 x3 y1 y2 y3 = none := by
  have e : crossO x1 x2 x3 y1 y2 y3 = none := by unfold crossO; rw [h]; rfl
  unfold sofF
  rw [e]
  exact sofq3 _ _ _
theorem sof_n4 {x1 x2 x3 y1 y2 y3 m1 m2 m3 : Int} (h : mirrorF y1 y2 y3 = some (m1, m2, m3)) (k : timesF x1 x2 x3 m1 m2 m3 = none) : sofF x1 x2 x3 y1 y2 y3 = none := by
  have e : crossO x1 x2 x3 y1 y2 y3 = none := by unfold crossO; rw [h]; exact k
  unfold sofF
  rw [e]
  exact sofq3 _ _ _
theorem sof_parts {x1 x2 x3 y1 y2 y3 p1 p2 p3 q1 q2 q3 m1 m2 m3 c1 c2 c3 : Int} (hp : powerF x1 x2 x3 = some (p1, p2, p3)) (hq : powerF y1 y2 y3 = some (q1, q2, q3)) (h : mirrorF y1 y2 y3 = some (m1, m2, m3)) (k : timesF x1 x2 x3 m1 m2 m3 = some (c1, c2, c3)) :
    sofF x1 x2 x3 y1 y2 y3 = quadO (addF p1 p2 p3 q1 q2 q3) (lessF p1 p2 p3 q1 q2 q3) (makeF (2 * c1) 0 c3) (makeF (2 * c2) 0 c3) := by
  have e : crossO x1 x2 x3 y1 y2 y3 = some (c1, c2, c3) := by unfold crossO; rw [h]; exact k
  unfold sofF jpowF
  rw [e, hp, hq]
  rfl
end Go.Proofs.YtnfbopaafciiiaaDoor
