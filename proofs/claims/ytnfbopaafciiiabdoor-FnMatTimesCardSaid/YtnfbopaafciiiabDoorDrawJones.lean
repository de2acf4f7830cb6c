/-
  The draws of the laws of vectors.
-/
import Derived.Test.YtnfbopaafciiiabDoorBDrawF
import Derived.Test.YtnfbopaafciiiabDoorBMem
import Derived.Deep.RegionHeld3
namespace Go.Proofs.YtnfbopaafciiiabDoor
open Go.ChangeShapes Go.WideShapes Go.ChangeAt Go.RowKit
set_option linter.unusedVariables false

theorem Blk.keepo {b : Nat} {w w' : World} {k : Nat} {vs : List Value} (ho : Only b w w') (hk : k ≠ b) (h : Blk w k vs) : Blk w' k vs := by
  have l := h.lt
  obtain ⟨T, h⟩ := h
  exact ⟨T, (ho.block k l hk).trans h⟩
/-- A drawn vector: of ints of 64 bits. -/
def DrewJ (b p : Nat) (w : World) (e : Ending) (w' : World) : Prop :=
  ∃ (x1 x2 x3 y1 y2 y3 : Int) (q : Nat), e = .returned (.agg #[.int .i64 x1, .int .i64 x2, .int .i64 x3, .int .i64 y1, .int .i64 y2, .int .i64 y3]) ∧ i64B x1 ∧ i64B x2 ∧ i64B x3 ∧ i64B y1 ∧ i64B y2 ∧ i64B y3 ∧ q ≤ p + 11 ∧ Only b w w' ∧ Rd w' b q
/-- One drawn vector. -/
def DrewV (w : World) (e : Ending) (w' : World) : Prop := ∃ x1 x2 x3 y1 y2 y3 : Int, e = .returned (.agg #[.int .i64 x1, .int .i64 x2, .int .i64 x3, .int .i64 y1, .int .i64 y2, .int .i64 y3]) ∧ i64B x1 ∧ i64B x2 ∧ i64B x3 ∧ i64B y1 ∧ i64B y2 ∧ i64B y3 ∧ Below w.heap.size w w'
/-- Two drawn vectors. -/
def DrewVV (w : World) (e : Ending) (w' : World) : Prop := ∃ x1 x2 x3 y1 y2 y3 a1 a2 a3 b1 b2 b3 : Int, e = .returned (.tuple #[.agg #[.int .i64 x1, .int .i64 x2, .int .i64 x3, .int .i64 y1, .int .i64 y2, .int .i64 y3], .agg #[.int .i64 a1, .int .i64 a2, .int .i64 a3, .int .i64 b1, .int .i64 b2, .int .i64 b3]]) ∧ (i64B x1 ∧ i64B x2 ∧ i64B x3 ∧ i64B y1 ∧ i64B y2 ∧ i64B y3) ∧ (i64B a1 ∧ i64B a2 ∧ i64B a3 ∧ i64B b1 ∧ i64B b2 ∧ i64B b3) ∧ Below w.heap.size w w'
/-- A drawn vector and a drawn fraction. -/
def DrewVF (w : World) (e : Ending) (w' : World) : Prop := ∃ x1 x2 x3 y1 y2 y3 c1 c2 c3 : Int, e = .returned (.tuple #[.agg #[.int .i64 x1, .int .i64 x2, .int .i64 x3, .int .i64 y1, .int .i64 y2, .int .i64 y3], .agg #[.int .i64 c1, .int .i64 c2, .int .i64 c3]]) ∧ (i64B x1 ∧ i64B x2 ∧ i64B x3 ∧ i64B y1 ∧ i64B y2 ∧ i64B y3) ∧ (i64B c1 ∧ i64B c2 ∧ i64B c3) ∧ Below w.heap.size w w'
end Go.Proofs.YtnfbopaafciiiabDoor
