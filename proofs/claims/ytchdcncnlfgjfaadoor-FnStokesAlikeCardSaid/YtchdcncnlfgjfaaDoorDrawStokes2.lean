/-
  The draws of the laws of four numbers.
-/
import Derived.Test.YtchdcncnlfgjfaaDoorDrawStokes
import Derived.Deep.RegionHeld3
namespace Go.Proofs.YtchdcncnlfgjfaaDoor
open Go.ChangeShapes Go.WideShapes Go.ChangeAt Go.RowKit
set_option linter.unusedVariables false

/-- Drawn four numbers. -/
def DrewS1 (w : World) (e : Ending) (w' : World) : Prop := ∃ a1 a2 a3 b1 b2 b3 c1 c2 c3 d1 d2 d3 : Int, e = .returned (.agg #[.int .i64 a1, .int .i64 a2, .int .i64 a3, .int .i64 b1, .int .i64 b2, .int .i64 b3, .int .i64 c1, .int .i64 c2, .int .i64 c3, .int .i64 d1, .int .i64 d2, .int .i64 d3]) ∧ (i64B a1 ∧ i64B a2 ∧ i64B a3 ∧ i64B b1 ∧ i64B b2 ∧ i64B b3 ∧ i64B c1 ∧ i64B c2 ∧ i64B c3 ∧ i64B d1 ∧ i64B d2 ∧ i64B d3) ∧ Below w.heap.size w w'
/-- Drawn four and four numbers. -/
def DrewSS (w : World) (e : Ending) (w' : World) : Prop := ∃ a1 a2 a3 b1 b2 b3 c1 c2 c3 d1 d2 d3 i1 i2 i3 j1 j2 j3 k1 k2 k3 l1 l2 l3 : Int, e = .returned (.tuple #[.agg #[.int .i64 a1, .int .i64 a2, .int .i64 a3, .int .i64 b1, .int .i64 b2, .int .i64 b3, .int .i64 c1, .int .i64 c2, .int .i64 c3, .int .i64 d1, .int .i64 d2, .int .i64 d3], .agg #[.int .i64 i1, .int .i64 i2, .int .i64 i3, .int .i64 j1, .int .i64 j2, .int .i64 j3, .int .i64 k1, .int .i64 k2, .int .i64 k3, .int .i64 l1, .int .i64 l2, .int .i64 l3]]) ∧ (i64B a1 ∧ i64B a2 ∧ i64B a3 ∧ i64B b1 ∧ i64B b2 ∧ i64B b3 ∧ i64B c1 ∧ i64B c2 ∧ i64B c3 ∧ i64B d1 ∧ i64B d2 ∧ i64B d3) ∧ (i64B i1 ∧ i64B i2 ∧ i64B i3 ∧ i64B j1 ∧ i64B j2 ∧ i64B j3 ∧ i64B k1 ∧ i64B k2 ∧ i64B k3 ∧ i64B l1 ∧ i64B l2 ∧ i64B l3) ∧ Below w.heap.size w w'
/-- Drawn four numbers and a drawn fraction. -/
def DrewSF (w : World) (e : Ending) (w' : World) : Prop := ∃ a1 a2 a3 b1 b2 b3 c1 c2 c3 d1 d2 d3 q1 q2 q3 : Int, e = .returned (.tuple #[.agg #[.int .i64 a1, .int .i64 a2, .int .i64 a3, .int .i64 b1, .int .i64 b2, .int .i64 b3, .int .i64 c1, .int .i64 c2, .int .i64 c3, .int .i64 d1, .int .i64 d2, .int .i64 d3], .agg #[.int .i64 q1, .int .i64 q2, .int .i64 q3]]) ∧ (i64B a1 ∧ i64B a2 ∧ i64B a3 ∧ i64B b1 ∧ i64B b2 ∧ i64B b3 ∧ i64B c1 ∧ i64B c2 ∧ i64B c3 ∧ i64B d1 ∧ i64B d2 ∧ i64B d3) ∧ (i64B q1 ∧ i64B q2 ∧ i64B q3) ∧ Below w.heap.size w w'
end Go.Proofs.YtchdcncnlfgjfaaDoor
