/-
  Comparisons; contracts with letters.
-/
import Derived.Test.YtkdkeacfifjjoabGreatDoorEqVec
import Derived.Test.YtkdkeacfifjjoabGreatDoorBMathA
import Derived.Test.YtkdkeacfifjjoabGreatDoorBSpecV
import Derived.Test.YtkdkeacfifjjoabGreatDoorBVec
import Derived.Test.YtkdkeacfifjjoabGreatDoorBMath
import Derived.Test.YtkdkeacfifjjoabGreatDoorBImplF
namespace Go.Proofs.YtkdkeacfifjjoabGreatDoor
open Go.ChangeShapes Go.WideShapes Go.ChangeAt Go.RowKit
set_option linter.unusedVariables false

def i64T (u : F3) : Prop := i64B u.1 ∧ i64B u.2.1 ∧ i64B u.2.2
def i64J (x : F3 × F3) : Prop := i64T x.1 ∧ i64T x.2
def i64M (x : F4) : Prop := i64T x.1 ∧ i64T x.2.1 ∧ i64T x.2.2.1 ∧ i64T x.2.2.2
def valT (o : Option F3) : F3 := o.getD (0, 0, 0)
def valJ (o : Option (F3 × F3)) : F3 × F3 := o.getD ((0, 0, 0), (0, 0, 0))
theorem i64T_ok {u : F3} (h : okT u = true) : i64T u := okF_i64 h
theorem i64T_0 : i64T (0, 0, 0) := by unfold i64T i64B; decide
theorem valT_i64 {o : Option F3} {x : F3} (h : ∀ r, o = some r → okT r = true) (hx : valT o = x) : i64T x := by
  subst hx
  cases o with
  | none => exact i64T_0
  | some v => exact i64T_ok (h v rfl)
theorem valJ_i64 {o : Option (F3 × F3)} {x : F3 × F3} (h : ∀ r, o = some r → okT r.1 = true ∧ okT r.2 = true) (hx : valJ o = x) : i64J x := by
  subst hx
  cases o with
  | none => exact ⟨i64T_0, i64T_0⟩
  | some v => exact ⟨i64T_ok (h v rfl).1, i64T_ok (h v rfl).2⟩
theorem someT {o : Option F3} {x : F3} (h : valT o = x) (k : o.isSome = true) : o = some x := by
  subst h
  cases o with
  | none => cases k
  | some v => rfl
theorem someJ {o : Option (F3 × F3)} {x : F3 × F3} (h : valJ o = x) (k : o.isSome = true) : o = some x := by
  subst h
  cases o with
  | none => cases k
  | some v => rfl
theorem isS {α : Type} {o : Option α} {x : α} (h : o = some x) : o.isSome = true := by rw [h]; rfl
theorem gaveT_at {o : Option (F3)} {x : F3} {s : Bool} (hx : valT o = x) (hs : o.isSome = s) {P : Program} {f : FuncId} {ar : Array Value} {w : World} (c : Calls P f ar w (Gave o w)) :
    Calls P f ar w fun e w' => e = .returned (.tuple #[.agg #[.int .i64 x.1, .int .i64 x.2.1, .int .i64 x.2.2], .bool s]) ∧ Below w.heap.size w w' := by
  subst hx hs
  cases o with
  | none => exact c
  | some v => exact c
theorem gaveJ_at {o : Option (F3 × F3)} {x : F3 × F3} {s : Bool} (hx : valJ o = x) (hs : o.isSome = s) {P : Program} {f : FuncId} {ar : Array Value} {w : World} (c : Calls P f ar w (Gave6 o w)) :
    Calls P f ar w fun e w' => e = .returned (.tuple #[.agg #[.int .i64 x.1.1, .int .i64 x.1.2.1, .int .i64 x.1.2.2, .int .i64 x.2.1, .int .i64 x.2.2.1, .int .i64 x.2.2.2], .bool s]) ∧ Below w.heap.size w w' := by
  subst hx hs
  cases o with
  | none => exact c.mono fun e w' h => ⟨h.2.1 rfl, h.2.2⟩
  | some v => exact c.mono fun e w' h => ⟨h.1 _ _ _ _ _ _ rfl, h.2.2⟩
end Go.Proofs.YtkdkeacfifjjoabGreatDoor
