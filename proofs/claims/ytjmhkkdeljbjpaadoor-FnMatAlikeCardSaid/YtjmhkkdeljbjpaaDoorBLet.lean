/-
  Comparisons; contracts with letters.
-/
import Derived.Test.YtjmhkkdeljbjpaaDoorEqVec
import Derived.Test.YtjmhkkdeljbjpaaDoorBMathA
import Derived.Test.YtjmhkkdeljbjpaaDoorBSpecV
import Derived.Test.YtjmhkkdeljbjpaaDoorBVec
import Derived.Test.YtjmhkkdeljbjpaaDoorBMath
import Derived.Test.YtjmhkkdeljbjpaaDoorBImplF
namespace Go.Proofs.YtjmhkkdeljbjpaaDoor
open Go.ChangeShapes Go.WideShapes Go.ChangeAt Go.RowKit
set_option linter.unusedVariables false

def eqM4 (x y : F4) : Bool := x == y
theorem eqM4_true {x y : F4} : eqM4 x y = true ↔ x = y := by unfold eqM4; simp
theorem gave12_some {o : Option ((Int × Int × Int) × (Int × Int × Int) × (Int × Int × Int) × (Int × Int × Int))} {a1 a2 a3 b1 b2 b3 c1 c2 c3 d1 d2 d3 : Int} (h : o = some ((a1, a2, a3), (b1, b2, b3), (c1, c2, c3), (d1, d2, d3))) {P : Program} {f : FuncId} {ar : Array Value} {w : World} (c : Calls P f ar w (Gave12 o w)) :
    Calls P f ar w fun e w' => e = .returned (.tuple #[.agg #[.int .i64 a1, .int .i64 a2, .int .i64 a3, .int .i64 b1, .int .i64 b2, .int .i64 b3, .int .i64 c1, .int .i64 c2, .int .i64 c3, .int .i64 d1, .int .i64 d2, .int .i64 d3], .bool true]) ∧ Below w.heap.size w w' := c.mono fun e w' k => ⟨k.1 _ _ _ _ _ _ _ _ _ _ _ _ h, k.2.2⟩
theorem gave12_none {o : Option ((Int × Int × Int) × (Int × Int × Int) × (Int × Int × Int) × (Int × Int × Int))} (h : o = none) {P : Program} {f : FuncId} {ar : Array Value} {w : World} (c : Calls P f ar w (Gave12 o w)) :
    Calls P f ar w fun e w' => e = .returned (.tuple #[.agg #[.int .i64 0, .int .i64 0, .int .i64 0, .int .i64 0, .int .i64 0, .int .i64 0, .int .i64 0, .int .i64 0, .int .i64 0, .int .i64 0, .int .i64 0, .int .i64 0], .bool false]) ∧ Below w.heap.size w w' := c.mono fun e w' k => ⟨k.2.1 h, k.2.2⟩
/-- Told four numbers, their letters open, of ints of 64 bits. -/
theorem gave12_i64 {o : Option ((Int × Int × Int) × (Int × Int × Int) × (Int × Int × Int) × (Int × Int × Int))} (hb : ∀ a1 a2 a3 b1 b2 b3 c1 c2 c3 d1 d2 d3, o = some ((a1, a2, a3), (b1, b2, b3), (c1, c2, c3), (d1, d2, d3)) → okF a1 a2 a3 = true ∧ okF b1 b2 b3 = true ∧ okF c1 c2 c3 = true ∧ okF d1 d2 d3 = true) : ∃ r1 r2 r3 r4 r5 r6 r7 r8 r9 r10 r11 r12 : Int, ∃ k : Bool, (i64B r1 ∧ i64B r2 ∧ i64B r3 ∧ i64B r4 ∧ i64B r5 ∧ i64B r6 ∧ i64B r7 ∧ i64B r8 ∧ i64B r9 ∧ i64B r10 ∧ i64B r11 ∧ i64B r12) ∧ (∀ P f ar w, Calls P f ar w (Gave12 o w) → Calls P f ar w fun e w' => e = .returned (.tuple #[.agg #[.int .i64 r1, .int .i64 r2, .int .i64 r3, .int .i64 r4, .int .i64 r5, .int .i64 r6, .int .i64 r7, .int .i64 r8, .int .i64 r9, .int .i64 r10, .int .i64 r11, .int .i64 r12], .bool k]) ∧ Below w.heap.size w w') := by
  cases o with
  | none => exact ⟨0, 0, 0, 0, 0, 0, 0, 0, 0, 0, 0, 0, false, by unfold i64B; omega, fun P f ar w c => gave12_none rfl c⟩
  | some v =>
    obtain ⟨⟨a1, a2, a3⟩, ⟨b1, b2, b3⟩, ⟨c1, c2, c3⟩, d1, d2, d3⟩ := v
    obtain ⟨h1, h2, h3, h4⟩ := hb _ _ _ _ _ _ _ _ _ _ _ _ rfl
    obtain ⟨a1', a2', a3'⟩ := okF_i64 h1
    obtain ⟨b1', b2', b3'⟩ := okF_i64 h2
    obtain ⟨c1', c2', c3'⟩ := okF_i64 h3
    obtain ⟨d1', d2', d3'⟩ := okF_i64 h4
    exact ⟨a1, a2, a3, b1, b2, b3, c1, c2, c3, d1, d2, d3, true, ⟨a1', a2', a3', b1', b2', b3', c1', c2', c3', d1', d2', d3'⟩, fun P f ar w c => gave12_some rfl c⟩
def i64T (u : F3) : Prop := i64B u.1 ∧ i64B u.2.1 ∧ i64B u.2.2
def i64J (x : F3 × F3) : Prop := i64T x.1 ∧ i64T x.2
def i64M (x : F4) : Prop := i64T x.1 ∧ i64T x.2.1 ∧ i64T x.2.2.1 ∧ i64T x.2.2.2
def valT (o : Option F3) : F3 := o.getD (0, 0, 0)
def valJ (o : Option (F3 × F3)) : F3 × F3 := o.getD ((0, 0, 0), (0, 0, 0))
def valM (o : Option F4) : F4 := o.getD ((0, 0, 0), (0, 0, 0), (0, 0, 0), (0, 0, 0))
theorem i64T_ok {u : F3} (h : okT u = true) : i64T u := okF_i64 h
theorem i64T_0 : i64T (0, 0, 0) := by unfold i64T i64B; decide
theorem i64M_ok {x : F4} (h : okM x = true) : i64M x := by
  obtain ⟨a, b, c, d⟩ := x
  obtain ⟨h1, h2, h3, h4⟩ := okM_of h
  exact ⟨i64T_ok h1, i64T_ok h2, i64T_ok h3, i64T_ok h4⟩
theorem valT_i64 {o : Option F3} {x : F3} (h : ∀ r, o = some r → okT r = true) (hx : valT o = x) : i64T x := by
  subst hx
  cases o with
  | none => exact i64T_0
  | some v => exact i64T_ok (h v rfl)
theorem valJ_i64 {o : Option (F3 × F3)} {x : F3 × F3} (h : ∀ r, o = some r → okT r.1 = true ∧ okT r.2 = true) (hx : valJ o = x) : i64J x := by
  subst hx
  cases o with
  | none => exact ⟨i64T_0, i64T_0⟩
  | some v => exact ⟨i64T_ok (h v rfl).1, i64T_ok (h v rfl).2⟩
theorem valM_i64 {o : Option F4} {x : F4} (h : ∀ r, o = some r → okM r = true) (hx : valM o = x) : i64M x := by
  subst hx
  cases o with
  | none => exact ⟨i64T_0, i64T_0, i64T_0, i64T_0⟩
  | some v => exact i64M_ok (h v rfl)
theorem someT {o : Option F3} {x : F3} (h : valT o = x) (k : o.isSome = true) : o = some x := by
  subst h
  cases o with
  | none => cases k
  | some v => rfl
theorem someJ {o : Option (F3 × F3)} {x : F3 × F3} (h : valJ o = x) (k : o.isSome = true) : o = some x := by
  subst h
  cases o with
  | none => cases k
  | some v => rfl
theorem gaveT_at {o : Option (F3)} {x : F3} {s : Bool} (hx : valT o = x) (hs : o.isSome = s) {P : Program} {f : FuncId} {ar : Array Value} {w : World} (c : Calls P f ar w (Gave o w)) :
    Calls P f ar w fun e w' => e = .returned (.tuple #[.agg #[.int .i64 x.1, .int .i64 x.2.1, .int .i64 x.2.2], .bool s]) ∧ Below w.heap.size w w' := by
  subst hx hs
  cases o with
  | none => exact c
  | some v => exact c
theorem gaveJ_at {o : Option (F3 × F3)} {x : F3 × F3} {s : Bool} (hx : valJ o = x) (hs : o.isSome = s) {P : Program} {f : FuncId} {ar : Array Value} {w : World} (c : Calls P f ar w (Gave6 o w)) :
    Calls P f ar w fun e w' => e = .returned (.tuple #[.agg #[.int .i64 x.1.1, .int .i64 x.1.2.1, .int .i64 x.1.2.2, .int .i64 x.2.1, .int .i64 x.2.2.1, .int .i64 x.2.2.2], .bool s]) ∧ Below w.heap.size w w' := by
  subst hx hs
  cases o with
  | none => exact c.mono fun e w' h => ⟨h.2.1 rfl, h.2.2⟩
  | some v => exact c.mono fun e w' h => ⟨h.1 _ _ _ _ _ _ rfl, h.2.2⟩
theorem gaveM_at {o : Option (F4)} {x : F4} {s : Bool} (hx : valM o = x) (hs : o.isSome = s) {P : Program} {f : FuncId} {ar : Array Value} {w : World} (c : Calls P f ar w (Gave12 o w)) :
    Calls P f ar w fun e w' => e = .returned (.tuple #[.agg #[.int .i64 x.1.1, .int .i64 x.1.2.1, .int .i64 x.1.2.2, .int .i64 x.2.1.1, .int .i64 x.2.1.2.1, .int .i64 x.2.1.2.2, .int .i64 x.2.2.1.1, .int .i64 x.2.2.1.2.1, .int .i64 x.2.2.1.2.2, .int .i64 x.2.2.2.1, .int .i64 x.2.2.2.2.1, .int .i64 x.2.2.2.2.2], .bool s]) ∧ Below w.heap.size w w' := by
  subst hx hs
  cases o with
  | none => exact c.mono fun e w' h => ⟨h.2.1 rfl, h.2.2⟩
  | some v => exact c.mono fun e w' h => ⟨h.1 _ _ _ _ _ _ _ _ _ _ _ _ rfl, h.2.2⟩
theorem appM_ok {A : F4} {V r : F3 × F3} (h : appM A V = some r) : okT r.1 = true ∧ okT r.2 = true := by
  obtain ⟨a, b, c, d⟩ := A
  obtain ⟨x, y⟩ := V
  obtain ⟨u, v⟩ := r
  obtain ⟨e1, e2⟩ := appM_some h
  exact ⟨(inT_val e1).2.2.2.2.1, (inT_val e2).2.2.2.2.1⟩
end Go.Proofs.YtjmhkkdeljbjpaaDoor
