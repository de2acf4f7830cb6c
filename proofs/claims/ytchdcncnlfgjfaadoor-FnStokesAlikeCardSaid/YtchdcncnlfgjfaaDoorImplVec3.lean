/-
  The program's methods of vectors: powers, inner products, the vector across.
-/
import Derived.Test.YtchdcncnlfgjfaaDoorImplVec2
import Derived.Test.YtchdcncnlfgjfaaDoorImplBoth4
import Derived.Test.YtchdcncnlfgjfaaDoorBSpecF
namespace Go.Proofs.YtchdcncnlfgjfaaDoor
open Go.ChangeShapes Go.WideShapes Go.ChangeAt Go.RowKit
set_option linter.unusedVariables false

theorem addO_bind (o p : Option (Int × Int × Int)) : addO o p = (pairO o p).bind fun r => addF r.1.1 r.1.2.1 r.1.2.2 r.2.1 r.2.2.1 r.2.2.2 := by
  cases o <;> cases p <;> simp [addO, pairO, okR, partsR]
theorem pairO_some {o p : Option (Int × Int × Int)} {u v : Int × Int × Int} (h : pairO o p = some (u, v)) : o = some u ∧ p = some v := by
  cases o <;> cases p <;> simp_all [pairO, okR, partsR]
theorem mirror_some {x y z u v t : Int} (h : mirrorF x y z = some (u, v, t)) : okF x y z = true ∧ u = x ∧ v = -y ∧ t = z ∧ okF u v t = true := by
  unfold mirrorF at h
  split at h
  · rename_i hk
    cases h
    exact ⟨hk, rfl, rfl, rfl, by rw [okF_neg1]; exact hk⟩
  · cases h
theorem inner_bind (x1 x2 x3 y1 y2 y3 a1 a2 a3 b1 b2 b3 : Int) : innerF x1 x2 x3 y1 y2 y3 a1 a2 a3 b1 b2 b3 = (jmirrorF a1 a2 a3 b1 b2 b3).bind fun m => addO (timesF x1 x2 x3 m.1.1 m.1.2.1 m.1.2.2) (timesF y1 y2 y3 m.2.1 m.2.2.1 m.2.2.2) := by
  unfold innerF jmirrorF pairO innF
  cases mirrorF a1 a2 a3 <;> cases mirrorF b1 b2 b3 <;> simp [okR, partsR]
theorem cross_bind (x1 x2 x3 y1 y2 y3 : Int) : jcrossF x1 x2 x3 y1 y2 y3 = (jmirrorF x1 x2 x3 y1 y2 y3).bind fun m => some ((-m.2.1, -m.2.2.1, m.2.2.2), m.1) := by
  unfold jcrossF jmirrorF pairO
  cases mirrorF x1 x2 x3 <;> cases mirrorF y1 y2 y3 <;> simp [okR, partsR]
end Go.Proofs.YtchdcncnlfgjfaaDoor
