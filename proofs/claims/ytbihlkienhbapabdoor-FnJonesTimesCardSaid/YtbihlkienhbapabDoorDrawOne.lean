/-
  The draws of the laws of fractions: one or two of them, each of ints of 64 bits.
-/
import Derived.Test.YtbihlkienhbapabDoorDrawFrac
import Derived.Test.YtbihlkienhbapabDoorOpenInts
namespace Go.Proofs.YtbihlkienhbapabDoor
open Go.ChangeShapes Go.WideShapes Go.ChangeAt Go.RowKit
set_option linter.unusedVariables false

theorem drawn_i64 {x y z : Int} (h : DrawnF x y z) : i64B x ∧ i64B y ∧ i64B z := by
  unfold i64B
  rcases h with ⟨rfl, rfl, rfl⟩ | ⟨rfl, rfl, rfl⟩ | ⟨rfl, rfl, rfl⟩ | ⟨rfl, rfl, rfl⟩ | ⟨re, im, den, h1, h2, h3, e⟩
  · omega
  · omega
  · omega
  · omega
  · unfold lowF at e
    simp only at e
    split at e
    · rename_i hk
      simp only [partsR, Option.getD_some, Prod.mk.injEq] at e
      obtain ⟨rfl, rfl, rfl⟩ := e
      have := okF_bd hk
      omega
    · simp only [partsR, Option.getD_none, Prod.mk.injEq] at e
      omega
theorem Code8.alloc {w : World} {a : Option Addr} {len cap : Nat} (h : Code8 w a len cap) (o : Obj) : Code8 (w.alloc o) a len cap := by
  obtain ⟨h1, h2, h3⟩ := h
  refine ⟨h1, h2, ?_⟩
  rcases h3 with h3 | ⟨c, off, ha, hc, hz⟩
  · exact .inl h3
  · refine .inr ⟨c, off, ha, by simp; omega, fun i hi => ?_⟩
    obtain ⟨z, z0, z1, hzc⟩ := hz i hi
    exact ⟨z, z0, z1, (World.cell?_alloc_lt w _ ⟨c, off + i, none⟩ hc).trans hzc⟩
/-- One drawn fraction. -/
def Drew1 (w : World) (e : Ending) (w' : World) : Prop :=
  ∃ x y z : Int, e = .returned (.agg #[.int .i64 x, .int .i64 y, .int .i64 z]) ∧ i64B x ∧ i64B y ∧ i64B z ∧ Below w.heap.size w w'
/-- Two drawn fractions. -/
def Drew2 (w : World) (e : Ending) (w' : World) : Prop :=
  ∃ x y z a b c : Int, e = .returned (.tuple #[.agg #[.int .i64 x, .int .i64 y, .int .i64 z], .agg #[.int .i64 a, .int .i64 b, .int .i64 c]]) ∧ i64B x ∧ i64B y ∧ i64B z ∧ i64B a ∧ i64B b ∧ i64B c ∧ Below w.heap.size w w'
end Go.Proofs.YtbihlkienhbapabDoor
