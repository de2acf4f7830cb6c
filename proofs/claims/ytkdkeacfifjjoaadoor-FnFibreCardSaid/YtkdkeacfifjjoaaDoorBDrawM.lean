/-
  The draws of vectors and matrices.
-/
import Derived.Test.YtkdkeacfifjjoaaDoorBDrawF
import Derived.Test.YtkdkeacfifjjoaaDoorBMem
import Derived.Deep.RegionHeld3
import Derived.Test.YtkdkeacfifjjoaaDoorBLet
import Derived.Test.YtkdkeacfifjjoaaDoorSpecM6
namespace Go.Proofs.YtkdkeacfifjjoaaDoor
open Go.ChangeShapes Go.WideShapes Go.ChangeAt Go.RowKit
set_option linter.unusedVariables false

/-- A drawn vector: of ints of 64 bits. -/
def DrewJ (b p : Nat) (w : World) (e : Ending) (w' : World) : Prop :=
  ∃ (x1 x2 x3 y1 y2 y3 : Int) (q : Nat), e = .returned (.agg #[.int .i64 x1, .int .i64 x2, .int .i64 x3, .int .i64 y1, .int .i64 y2, .int .i64 y3]) ∧ i64B x1 ∧ i64B x2 ∧ i64B x3 ∧ i64B y1 ∧ i64B y2 ∧ i64B y3 ∧ q ≤ p + 11 ∧ Only b w w' ∧ Rd w' b q
/-- One drawn vector. -/
def DrewV (w : World) (e : Ending) (w' : World) : Prop := ∃ x1 x2 x3 y1 y2 y3 : Int, e = .returned (.agg #[.int .i64 x1, .int .i64 x2, .int .i64 x3, .int .i64 y1, .int .i64 y2, .int .i64 y3]) ∧ i64B x1 ∧ i64B x2 ∧ i64B x3 ∧ i64B y1 ∧ i64B y2 ∧ i64B y3 ∧ Below w.heap.size w w'
/-- Two drawn vectors. -/
def DrewVV (w : World) (e : Ending) (w' : World) : Prop := ∃ x1 x2 x3 y1 y2 y3 a1 a2 a3 b1 b2 b3 : Int, e = .returned (.tuple #[.agg #[.int .i64 x1, .int .i64 x2, .int .i64 x3, .int .i64 y1, .int .i64 y2, .int .i64 y3], .agg #[.int .i64 a1, .int .i64 a2, .int .i64 a3, .int .i64 b1, .int .i64 b2, .int .i64 b3]]) ∧ (i64B x1 ∧ i64B x2 ∧ i64B x3 ∧ i64B y1 ∧ i64B y2 ∧ i64B y3) ∧ (i64B a1 ∧ i64B a2 ∧ i64B a3 ∧ i64B b1 ∧ i64B b2 ∧ i64B b3) ∧ Below w.heap.size w w'
/-- A drawn vector and a drawn fraction. -/
def DrewVF (w : World) (e : Ending) (w' : World) : Prop := ∃ x1 x2 x3 y1 y2 y3 c1 c2 c3 : Int, e = .returned (.tuple #[.agg #[.int .i64 x1, .int .i64 x2, .int .i64 x3, .int .i64 y1, .int .i64 y2, .int .i64 y3], .agg #[.int .i64 c1, .int .i64 c2, .int .i64 c3]]) ∧ (i64B x1 ∧ i64B x2 ∧ i64B x3 ∧ i64B y1 ∧ i64B y2 ∧ i64B y3) ∧ (i64B c1 ∧ i64B c2 ∧ i64B c3) ∧ Below w.heap.size w w'
/-- A drawn direction. -/
def DrewD (b p : Nat) (w : World) (e : Ending) (w' : World) : Prop :=
  ∃ (x y : Int) (q : Nat), e = .returned (.tuple #[.int .i64 x, .int .i64 y]) ∧ -3 ≤ x ∧ x ≤ 101 ∧ -3 ≤ y ∧ y ≤ 3 ∧ q ≤ p + 3 ∧ Only b w w' ∧ Rd w' b q
/-- A drawn matrix: of ints of 64 bits. -/
def DrewM (b p : Nat) (w : World) (e : Ending) (w' : World) : Prop :=
  ∃ (x : F4) (q : Nat), e = .returned (.agg #[.int .i64 x.1.1, .int .i64 x.1.2.1, .int .i64 x.1.2.2, .int .i64 x.2.1.1, .int .i64 x.2.1.2.1, .int .i64 x.2.1.2.2, .int .i64 x.2.2.1.1, .int .i64 x.2.2.1.2.1, .int .i64 x.2.2.1.2.2, .int .i64 x.2.2.2.1, .int .i64 x.2.2.2.2.1, .int .i64 x.2.2.2.2.2]) ∧ i64M x ∧ q ≤ p + 26 ∧ Only b w w' ∧ Rd w' b q
theorem DrewM.mk {b p q : Nat} {w w' : World} {v : Value} (x : F4) (e : v = .agg #[.int .i64 x.1.1, .int .i64 x.1.2.1, .int .i64 x.1.2.2, .int .i64 x.2.1.1, .int .i64 x.2.1.2.1, .int .i64 x.2.1.2.2, .int .i64 x.2.2.1.1, .int .i64 x.2.2.1.2.1, .int .i64 x.2.2.1.2.2, .int .i64 x.2.2.2.1, .int .i64 x.2.2.2.2.1, .int .i64 x.2.2.2.2.2]) (h : i64M x) (hq : q ≤ p + 26) (ho : Only b w w') (hr : Rd w' b q) : DrewM b p w (.returned v) w' := ⟨x, q, by rw [e], h, hq, ho, hr⟩
/-- A drawn matrix. -/
def DrewM1 (w : World) (e : Ending) (w' : World) : Prop := ∃ x : F4, e = .returned (.agg #[.int .i64 x.1.1, .int .i64 x.1.2.1, .int .i64 x.1.2.2, .int .i64 x.2.1.1, .int .i64 x.2.1.2.1, .int .i64 x.2.1.2.2, .int .i64 x.2.2.1.1, .int .i64 x.2.2.1.2.1, .int .i64 x.2.2.1.2.2, .int .i64 x.2.2.2.1, .int .i64 x.2.2.2.2.1, .int .i64 x.2.2.2.2.2]) ∧ i64M x ∧ Below w.heap.size w w'
/-- Two drawn matrices. -/
def DrewMM (w : World) (e : Ending) (w' : World) : Prop := ∃ x y : F4, e = .returned (.tuple #[.agg #[.int .i64 x.1.1, .int .i64 x.1.2.1, .int .i64 x.1.2.2, .int .i64 x.2.1.1, .int .i64 x.2.1.2.1, .int .i64 x.2.1.2.2, .int .i64 x.2.2.1.1, .int .i64 x.2.2.1.2.1, .int .i64 x.2.2.1.2.2, .int .i64 x.2.2.2.1, .int .i64 x.2.2.2.2.1, .int .i64 x.2.2.2.2.2], .agg #[.int .i64 y.1.1, .int .i64 y.1.2.1, .int .i64 y.1.2.2, .int .i64 y.2.1.1, .int .i64 y.2.1.2.1, .int .i64 y.2.1.2.2, .int .i64 y.2.2.1.1, .int .i64 y.2.2.1.2.1, .int .i64 y.2.2.1.2.2, .int .i64 y.2.2.2.1, .int .i64 y.2.2.2.2.1, .int .i64 y.2.2.2.2.2]]) ∧ i64M x ∧ i64M y ∧ Below w.heap.size w w'
/-- A drawn matrix and a drawn vector. -/
def DrewMJ (w : World) (e : Ending) (w' : World) : Prop := ∃ (x : F4) (v : F3 × F3), e = .returned (.tuple #[.agg #[.int .i64 x.1.1, .int .i64 x.1.2.1, .int .i64 x.1.2.2, .int .i64 x.2.1.1, .int .i64 x.2.1.2.1, .int .i64 x.2.1.2.2, .int .i64 x.2.2.1.1, .int .i64 x.2.2.1.2.1, .int .i64 x.2.2.1.2.2, .int .i64 x.2.2.2.1, .int .i64 x.2.2.2.2.1, .int .i64 x.2.2.2.2.2], .agg #[.int .i64 v.1.1, .int .i64 v.1.2.1, .int .i64 v.1.2.2, .int .i64 v.2.1, .int .i64 v.2.2.1, .int .i64 v.2.2.2]]) ∧ i64M x ∧ i64J v ∧ Below w.heap.size w w'
/-- A drawn matrix and a drawn fraction. -/
def DrewMF (w : World) (e : Ending) (w' : World) : Prop := ∃ (x : F4) (c : F3), e = .returned (.tuple #[.agg #[.int .i64 x.1.1, .int .i64 x.1.2.1, .int .i64 x.1.2.2, .int .i64 x.2.1.1, .int .i64 x.2.1.2.1, .int .i64 x.2.1.2.2, .int .i64 x.2.2.1.1, .int .i64 x.2.2.1.2.1, .int .i64 x.2.2.1.2.2, .int .i64 x.2.2.2.1, .int .i64 x.2.2.2.2.1, .int .i64 x.2.2.2.2.2], .agg #[.int .i64 c.1, .int .i64 c.2.1, .int .i64 c.2.2]]) ∧ i64M x ∧ i64T c ∧ Below w.heap.size w w'
/-- A drawn direction. -/
def DrewPQ (w : World) (e : Ending) (w' : World) : Prop := ∃ p q : Int, e = .returned (.tuple #[.int .i64 p, .int .i64 q]) ∧ -3 ≤ p ∧ p ≤ 101 ∧ -3 ≤ q ∧ q ≤ 3 ∧ Below w.heap.size w w'
/-- A drawn direction and a drawn phase. -/
def DrewPQK (w : World) (e : Ending) (w' : World) : Prop := ∃ p q k : Int, e = .returned (.tuple #[.int .i64 p, .int .i64 q, .int .i64 k]) ∧ -3 ≤ p ∧ p ≤ 101 ∧ -3 ≤ q ∧ q ≤ 3 ∧ -1 ≤ k ∧ k ≤ 4 ∧ Below w.heap.size w w'
end Go.Proofs.YtkdkeacfifjjoaaDoor
