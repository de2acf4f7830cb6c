/-
  One letter a value: fractions, vectors, matrices.
-/
import Derived.Test.YtnfbopaafciiiabDoorEqMat
import Derived.Test.YtnfbopaafciiiabDoorMatMath
import Derived.Test.YtnfbopaafciiiabDoorBImplF
import Derived.Test.YtnfbopaafciiiabDoorGave6
import Derived.Test.YtnfbopaafciiiabDoorGave12
namespace Go.Proofs.YtnfbopaafciiiabDoor
open Go.ChangeShapes Go.WideShapes Go.ChangeAt Go.RowKit
set_option linter.unusedVariables false

def i64T (u : F3) : Prop := i64B u.1 ∧ i64B u.2.1 ∧ i64B u.2.2
def i64J (x : F3 × F3) : Prop := i64T x.1 ∧ i64T x.2
def i64M (x : F4) : Prop := i64T x.1 ∧ i64T x.2.1 ∧ i64T x.2.2.1 ∧ i64T x.2.2.2
def valT (o : Option F3) : F3 := o.getD (0, 0, 0)
def valJ (o : Option (F3 × F3)) : F3 × F3 := o.getD ((0, 0, 0), (0, 0, 0))
def valM (o : Option F4) : F4 := o.getD ((0, 0, 0), (0, 0, 0), (0, 0, 0), (0, 0, 0))
theorem i64T_ok {u : F3} (h : okT u = true) : i64T u := okF_i64 h
theorem i64T_0 : i64T (0, 0, 0) := by unfold i64T i64B; decide
theorem i64M_ok {x : F4} (h : okM x = true) : i64M x := by
  obtain ⟨a, b, c, d⟩ := x
  obtain ⟨h1, h2, h3, h4⟩ := okM_of h
  exact ⟨i64T_ok h1, i64T_ok h2, i64T_ok h3, i64T_ok h4⟩
theorem valT_i64 {o : Option F3} {x : F3} (h : ∀ r, o = some r → okT r = true) (hx : valT o = x) : i64T x := by
  subst hx
  cases o with
  | none => exact i64T_0
  | some v => exact i64T_ok (h v rfl)
theorem valJ_i64 {o : Option (F3 × F3)} {x : F3 × F3} (h : ∀ r, o = some r → okT r.1 = true ∧ okT r.2 = true) (hx : valJ o = x) : i64J x := by
  subst hx
  cases o with
  | none => exact ⟨i64T_0, i64T_0⟩
  | some v => exact ⟨i64T_ok (h v rfl).1, i64T_ok (h v rfl).2⟩
theorem valM_i64 {o : Option F4} {x : F4} (h : ∀ r, o = some r → okM r = true) (hx : valM o = x) : i64M x := by
  subst hx
  cases o with
  | none => exact ⟨i64T_0, i64T_0, i64T_0, i64T_0⟩
  | some v => exact i64M_ok (h v rfl)
theorem someT {o : Option F3} {x : F3} (h : valT o = x) (k : o.isSome = true) : o = some x := by
  subst h
  cases o with
  | none => cases k
  | some v => rfl
theorem someJ {o : Option (F3 × F3)} {x : F3 × F3} (h : valJ o = x) (k : o.isSome = true) : o = some x := by
  subst h
  cases o with
  | none => cases k
  | some v => rfl
theorem someM {o : Option F4} {x : F4} (h : valM o = x) (k : o.isSome = true) : o = some x := by
  subst h
  cases o with
  | none => cases k
  | some v => rfl
theorem isS {α : Type} {o : Option α} {x : α} (h : o = some x) : o.isSome = true := by rw [h]; rfl
theorem gaveT_at {o : Option (F3)} {x : F3} {s : Bool} (hx : valT o = x) (hs : o.isSome = s) {P : Program} {f : FuncId} {ar : Array Value} {w : World} (c : Calls P f ar w (Gave o w)) :
    Calls P f ar w fun e w' => e = .returned (.tuple #[.agg #[.int .i64 x.1, .int .i64 x.2.1, .int .i64 x.2.2], .bool s]) ∧ Below w.heap.size w w' := by
  subst hx hs
  cases o with
  | none => exact c
  | some v => exact c
theorem gaveJ_at {o : Option (F3 × F3)} {x : F3 × F3} {s : Bool} (hx : valJ o = x) (hs : o.isSome = s) {P : Program} {f : FuncId} {ar : Array Value} {w : World} (c : Calls P f ar w (Gave6 o w)) :
    Calls P f ar w fun e w' => e = .returned (.tuple #[.agg #[.int .i64 x.1.1, .int .i64 x.1.2.1, .int .i64 x.1.2.2, .int .i64 x.2.1, .int .i64 x.2.2.1, .int .i64 x.2.2.2], .bool s]) ∧ Below w.heap.size w w' := by
  subst hx hs
  cases o with
  | none => exact c.mono fun e w' h => ⟨h.2.1 rfl, h.2.2⟩
  | some v => exact c.mono fun e w' h => ⟨h.1 _ _ _ _ _ _ rfl, h.2.2⟩
theorem gaveM_at {o : Option (F4)} {x : F4} {s : Bool} (hx : valM o = x) (hs : o.isSome = s) {P : Program} {f : FuncId} {ar : Array Value} {w : World} (c : Calls P f ar w (Gave12 o w)) :
    Calls P f ar w fun e w' => e = .returned (.tuple #[.agg #[.int .i64 x.1.1, .int .i64 x.1.2.1, .int .i64 x.1.2.2, .int .i64 x.2.1.1, .int .i64 x.2.1.2.1, .int .i64 x.2.1.2.2, .int .i64 x.2.2.1.1, .int .i64 x.2.2.1.2.1, .int .i64 x.2.2.1.2.2, .int .i64 x.2.2.2.1, .int .i64 x.2.2.2.2.1, .int .i64 x.2.2.2.2.2], .bool s]) ∧ Below w.heap.size w w' := by
  subst hx hs
  cases o with
  | none => exact c.mono fun e w' h => ⟨h.2.1 rfl, h.2.2⟩
  | some v => exact c.mono fun e w' h => ⟨h.1 _ _ _ _ _ _ _ _ _ _ _ _ rfl, h.2.2⟩
theorem eqMSame (x : F4) : ∀ w, (Op.equalIn 10000 27 (.agg #[.int .i64 x.1.1, .int .i64 x.1.2.1, .int .i64 x.1.2.2, .int .i64 x.2.1.1, .int .i64 x.2.1.2.1, .int .i64 x.2.1.2.2, .int .i64 x.2.2.1.1, .int .i64 x.2.2.1.2.1, .int .i64 x.2.2.1.2.2, .int .i64 x.2.2.2.1, .int .i64 x.2.2.2.2.1, .int .i64 x.2.2.2.2.2]) (.agg #[.int .i64 x.1.1, .int .i64 x.1.2.1, .int .i64 x.1.2.2, .int .i64 x.2.1.1, .int .i64 x.2.1.2.1, .int .i64 x.2.1.2.2, .int .i64 x.2.2.1.1, .int .i64 x.2.2.1.2.1, .int .i64 x.2.2.1.2.2, .int .i64 x.2.2.2.1, .int .i64 x.2.2.2.2.1, .int .i64 x.2.2.2.2.2])).run Tryd.prog w = .ok true w := by
  intro w
  rw [eqMat]
  congr 1
  exact eqM4_true.2 rfl
theorem eqTSame (x : F3) : ∀ w, (Op.equalIn 10000 24 (.agg #[.int .i64 x.1, .int .i64 x.2.1, .int .i64 x.2.2]) (.agg #[.int .i64 x.1, .int .i64 x.2.1, .int .i64 x.2.2])).run Tryd.prog w = .ok true w := by
  intro w
  rw [show (10000 : Nat) = 9998 + 2 from rfl, eqFr]
  simp
theorem eqTLit {x : F3} {a b c : Int} (h : x = (a, b, c)) : ∀ w, (Op.equalIn 10000 24 (.agg #[.int .i64 x.1, .int .i64 x.2.1, .int .i64 x.2.2]) (.agg #[.int .i64 a, .int .i64 b, .int .i64 c])).run Tryd.prog w = .ok true w := by
  subst h
  exact eqTSame (a, b, c)
theorem eqMLit {x : F4} {i1 i2 i3 j1 j2 j3 k1 k2 k3 l1 l2 l3 : Int} (h : x = ((i1, i2, i3), (j1, j2, j3), (k1, k2, k3), l1, l2, l3)) : ∀ w, (Op.equalIn 10000 27 (.agg #[.int .i64 x.1.1, .int .i64 x.1.2.1, .int .i64 x.1.2.2, .int .i64 x.2.1.1, .int .i64 x.2.1.2.1, .int .i64 x.2.1.2.2, .int .i64 x.2.2.1.1, .int .i64 x.2.2.1.2.1, .int .i64 x.2.2.1.2.2, .int .i64 x.2.2.2.1, .int .i64 x.2.2.2.2.1, .int .i64 x.2.2.2.2.2]) (.agg #[.int .i64 i1, .int .i64 i2, .int .i64 i3, .int .i64 j1, .int .i64 j2, .int .i64 j3, .int .i64 k1, .int .i64 k2, .int .i64 k3, .int .i64 l1, .int .i64 l2, .int .i64 l3])).run Tryd.prog w = .ok true w := by
  subst h
  exact eqMSame ((i1, i2, i3), (j1, j2, j3), (k1, k2, k3), l1, l2, l3)
theorem adjM_told {A : F4} (h : okM A = true) : (adjM A).isSome = true := by
  obtain ⟨a, b, c, d⟩ := A
  exact isS (adjM_of h)
theorem detM_okr {A : F4} {r : F3} (h : detM A = some r) : okT r = true := by
  obtain ⟨a, b, c, d⟩ := A
  exact (detM_val h).2.1
theorem appM_ok {A : F4} {V r : F3 × F3} (h : appM A V = some r) : okT r.1 = true ∧ okT r.2 = true := by
  obtain ⟨a, b, c, d⟩ := A
  obtain ⟨x, y⟩ := V
  obtain ⟨u, v⟩ := r
  obtain ⟨e1, e2⟩ := appM_some h
  exact ⟨(inT_val e1).2.2.2.2.1, (inT_val e2).2.2.2.2.1⟩
theorem appM_okM {A : F4} {V r : F3 × F3} (h : appM A V = some r) : okM A = true := by
  cases e : okM A with
  | true => rfl
  | false => rw [appM_not1 e] at h; cases h
theorem cT_ok {u v : F3} (h : cT u = some v) : okT v = true := by
  obtain ⟨k, rfl⟩ := cT_some h
  rw [okT_bar]; exact k
theorem powT_ok {u v : F3} (h : powerF u.1 u.2.1 u.2.2 = some v) : okT v = true := by
  obtain ⟨p, q, r⟩ := v
  exact (power_some h).2.1
theorem los_okM {A : F4} (h : losM A = true) : okM A = true := by
  obtain ⟨B, h1, -⟩ := lossM_some h
  exact (adjM_ok h1).1
end Go.Proofs.YtnfbopaafciiiabDoor
