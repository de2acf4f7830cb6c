/-
  The program's vectors.
-/
import Derived.Test.YtkdkeacfifjjoabDoorBMem
import Derived.Test.YtkdkeacfifjjoabDoorBImplF
import Derived.Test.YtkdkeacfifjjoabDoorBSpecV
import Derived.Deep.RegionWith
import Derived.Test.YtkdkeacfifjjoabDoorBSpecF
import Derived.Test.YtkdkeacfifjjoabDoorEqVec
import Derived.Deep.RegionHeld3
import Derived.BigQuiet
namespace Go.Proofs.YtkdkeacfifjjoabDoor
open Go.ChangeShapes Go.WideShapes Go.ChangeAt Go.RowKit
set_option linter.unusedVariables false

/-- A vector and no error, or the zero value and an error. -/
def Erred6 (o : Option ((Int × Int × Int) × (Int × Int × Int))) (w : World) (e : Ending) (w' : World) : Prop :=
  (∀ u1 u2 u3 v1 v2 v3, o = some ((u1, u2, u3), (v1, v2, v3)) → e = .returned (.tuple #[.agg #[.int .i64 u1, .int .i64 u2, .int .i64 u3, .int .i64 v1, .int .i64 v2, .int .i64 v3], .nilIface])) ∧ (o = none → ∃ s, e = .returned (.tuple #[.agg #[.int .i64 0, .int .i64 0, .int .i64 0, .int .i64 0, .int .i64 0, .int .i64 0], .iface 55 (.agg #[.string s])])) ∧ Below w.heap.size w w'
theorem addO_bind (o p : Option (Int × Int × Int)) : addO o p = (pairO o p).bind fun r => addF r.1.1 r.1.2.1 r.1.2.2 r.2.1 r.2.2.1 r.2.2.2 := by
  cases o <;> cases p <;> simp [addO, pairO, okR, partsR]
theorem pairO_some {o p : Option (Int × Int × Int)} {u v : Int × Int × Int} (h : pairO o p = some (u, v)) : o = some u ∧ p = some v := by
  cases o <;> cases p <;> simp_all [pairO, okR, partsR]
theorem mirror_some {x y z u v t : Int} (h : mirrorF x y z = some (u, v, t)) : okF x y z = true ∧ u = x ∧ v = -y ∧ t = z ∧ okF u v t = true := by
  unfold mirrorF at h
  split at h
  · rename_i hk
    cases h
    exact ⟨hk, rfl, rfl, rfl, by rw [okF_neg1]; exact hk⟩
  · cases h
theorem inner_bind (x1 x2 x3 y1 y2 y3 a1 a2 a3 b1 b2 b3 : Int) : innerF x1 x2 x3 y1 y2 y3 a1 a2 a3 b1 b2 b3 = (jmirrorF a1 a2 a3 b1 b2 b3).bind fun m => innF x1 x2 x3 m.1.1 m.1.2.1 m.1.2.2 y1 y2 y3 m.2.1 m.2.2.1 m.2.2.2 := by
  unfold innerF jmirrorF pairO innF
  cases mirrorF a1 a2 a3 <;> cases mirrorF b1 b2 b3 <;> simp [okR, partsR]
theorem cross_bind (x1 x2 x3 y1 y2 y3 : Int) : jcrossF x1 x2 x3 y1 y2 y3 = (jmirrorF x1 x2 x3 y1 y2 y3).bind fun m => some ((-m.2.1, -m.2.2.1, m.2.2.2), m.1) := by
  unfold jcrossF jmirrorF pairO
  cases mirrorF x1 x2 x3 <;> cases mirrorF y1 y2 y3 <;> simp [okR, partsR]
def vdarkB (x1 x2 x3 y1 y2 y3 : Int) : Bool := x1 == 0 && x2 == 0 && x3 == 1 && (y1 == 0 && y2 == 0 && y3 == 1)
theorem okF_zero {x y z : Int} (h : okF x y z = true) : (x == 0 && y == 0 && z == 1) = (x == 0 && y == 0) := by
  by_cases hx : x = 0
  · by_cases hy : y = 0
    · subst hx hy
      have hg := okF_gcd h
      obtain ⟨-, -, z0, z1⟩ := okF_bd h
      unfold gcd3 at hg
      simp at hg
      have : z = 1 := by omega
      simp [this]
    · simp [hy]
  · simp [hx]
theorem vdark_eq {x1 x2 x3 y1 y2 y3 : Int} (h : okF x1 x2 x3 = true) (k : okF y1 y2 y3 = true) : vdarkB x1 x2 x3 y1 y2 y3 = darkB x1 x2 x3 y1 y2 y3 := by
  have e1 := okF_zero h
  have e2 := okF_zero k
  unfold vdarkB darkB
  rw [e1, e2, ← Bool.and_assoc]
/-- What 'alike' hands back. -/
def ErredB (o : Option Bool) (w : World) (e : Ending) (w' : World) : Prop :=
  (∀ k, o = some k → e = .returned (.tuple #[.bool k, .nilIface])) ∧ (o = none → ∃ s, e = .returned (.tuple #[.bool false, .iface 55 (.agg #[.string s])])) ∧ Below w.heap.size w w'
def valikeF (x1 x2 x3 y1 y2 y3 a1 a2 a3 b1 b2 b3 : Int) : Option Bool := (pairO (timesF x1 x2 x3 b1 b2 b3) (timesF y1 y2 y3 a1 a2 a3)).map fun r => r.1 == r.2 && (darkB x1 x2 x3 y1 y2 y3 == darkB a1 a2 a3 b1 b2 b3)
theorem pairO_some' {o p : Option (Int × Int × Int)} {u v : Int × Int × Int} (h : pairO o p = some (u, v)) : o = some u ∧ p = some v := by
  cases o <;> cases p <;> simp_all [pairO, okR, partsR]
theorem alike_eq (x1 x2 x3 y1 y2 y3 a1 a2 a3 b1 b2 b3 : Int) : alikeF x1 x2 x3 y1 y2 y3 a1 a2 a3 b1 b2 b3 = (valikeF x1 x2 x3 y1 y2 y3 a1 a2 a3 b1 b2 b3).getD false := by
  unfold alikeF valikeF vbeq
  cases timesF x1 x2 x3 b1 b2 b3 with
  | none => rfl
  | some u =>
    cases timesF y1 y2 y3 a1 a2 a3 with
    | none => rfl
    | some v =>
      obtain ⟨u1, u2, u3⟩ := u
      obtain ⟨v1, v2, v3⟩ := v
      simp only [pairO, okR, partsR, Option.isSome_some, Bool.and_self, if_true, Option.map_some, Option.getD_some, Bool.true_and]
      rw [Bool.eq_iff_iff]
      simp [Bool.and_eq_true, beq_iff_eq, Prod.mk.injEq, and_assoc]
end Go.Proofs.YtkdkeacfifjjoabDoor
