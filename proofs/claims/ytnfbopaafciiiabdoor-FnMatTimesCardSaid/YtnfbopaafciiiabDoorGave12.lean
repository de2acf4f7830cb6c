/-
  Contracts of four numbers at told results.
-/
import Derived.Test.YtnfbopaafciiiabDoorStokesMath3
import Derived.Test.YtnfbopaafciiiabDoorBImplF
namespace Go.Proofs.YtnfbopaafciiiabDoor
open Go.ChangeShapes Go.WideShapes Go.ChangeAt Go.RowKit
set_option linter.unusedVariables false

theorem gave12_some {o : Option ((Int × Int × Int) × (Int × Int × Int) × (Int × Int × Int) × (Int × Int × Int))} {a1 a2 a3 b1 b2 b3 c1 c2 c3 d1 d2 d3 : Int} (h : o = some ((a1, a2, a3), (b1, b2, b3), (c1, c2, c3), (d1, d2, d3))) {P : Program} {f : FuncId} {ar : Array Value} {w : World} (c : Calls P f ar w (Gave12 o w)) :
    Calls P f ar w fun e w' => e = .returned (.tuple #[.agg #[.int .i64 a1, .int .i64 a2, .int .i64 a3, .int .i64 b1, .int .i64 b2, .int .i64 b3, .int .i64 c1, .int .i64 c2, .int .i64 c3, .int .i64 d1, .int .i64 d2, .int .i64 d3], .bool true]) ∧ Below w.heap.size w w' := c.mono fun e w' k => ⟨k.1 _ _ _ _ _ _ _ _ _ _ _ _ h, k.2.2⟩
theorem gave12_none {o : Option ((Int × Int × Int) × (Int × Int × Int) × (Int × Int × Int) × (Int × Int × Int))} (h : o = none) {P : Program} {f : FuncId} {ar : Array Value} {w : World} (c : Calls P f ar w (Gave12 o w)) :
    Calls P f ar w fun e w' => e = .returned (.tuple #[.agg #[.int .i64 0, .int .i64 0, .int .i64 0, .int .i64 0, .int .i64 0, .int .i64 0, .int .i64 0, .int .i64 0, .int .i64 0, .int .i64 0, .int .i64 0, .int .i64 0], .bool false]) ∧ Below w.heap.size w w' := c.mono fun e w' k => ⟨k.2.1 h, k.2.2⟩
/-- Told four numbers, their letters open, of ints of 64 bits. -/
theorem gave12_i64 {o : Option ((Int × Int × Int) × (Int × Int × Int) × (Int × Int × Int) × (Int × Int × Int))} (hb : ∀ a1 a2 a3 b1 b2 b3 c1 c2 c3 d1 d2 d3, o = some ((a1, a2, a3), (b1, b2, b3), (c1, c2, c3), (d1, d2, d3)) → okF a1 a2 a3 = true ∧ okF b1 b2 b3 = true ∧ okF c1 c2 c3 = true ∧ okF d1 d2 d3 = true) : ∃ r1 r2 r3 r4 r5 r6 r7 r8 r9 r10 r11 r12 : Int, ∃ k : Bool, (i64B r1 ∧ i64B r2 ∧ i64B r3 ∧ i64B r4 ∧ i64B r5 ∧ i64B r6 ∧ i64B r7 ∧ i64B r8 ∧ i64B r9 ∧ i64B r10 ∧ i64B r11 ∧ i64B r12) ∧ (∀ P f ar w, Calls P f ar w (Gave12 o w) → Calls P f ar w fun e w' => e = .returned (.tuple #[.agg #[.int .i64 r1, .int .i64 r2, .int .i64 r3, .int .i64 r4, .int .i64 r5, .int .i64 r6, .int .i64 r7, .int .i64 r8, .int .i64 r9, .int .i64 r10, .int .i64 r11, .int .i64 r12], .bool k]) ∧ Below w.heap.size w w') := by
  cases o with
  | none => exact ⟨0, 0, 0, 0, 0, 0, 0, 0, 0, 0, 0, 0, false, by unfold i64B; omega, fun P f ar w c => gave12_none rfl c⟩
  | some v =>
    obtain ⟨⟨a1, a2, a3⟩, ⟨b1, b2, b3⟩, ⟨c1, c2, c3⟩, d1, d2, d3⟩ := v
    obtain ⟨h1, h2, h3, h4⟩ := hb _ _ _ _ _ _ _ _ _ _ _ _ rfl
    obtain ⟨a1', a2', a3'⟩ := okF_i64 h1
    obtain ⟨b1', b2', b3'⟩ := okF_i64 h2
    obtain ⟨c1', c2', c3'⟩ := okF_i64 h3
    obtain ⟨d1', d2', d3'⟩ := okF_i64 h4
    exact ⟨a1, a2, a3, b1, b2, b3, c1, c2, c3, d1, d2, d3, true, ⟨a1', a2', a3', b1', b2', b3', c1', c2', c3', d1', d2', d3'⟩, fun P f ar w c => gave12_some rfl c⟩
theorem sadd_ok {a1 a2 a3 b1 b2 b3 c1 c2 c3 d1 d2 d3 i1 i2 i3 j1 j2 j3 k1 k2 k3 l1 l2 l3 r1 r2 r3 r4 r5 r6 r7 r8 r9 r10 r11 r12 : Int} (h : saddF a1 a2 a3 b1 b2 b3 c1 c2 c3 d1 d2 d3 i1 i2 i3 j1 j2 j3 k1 k2 k3 l1 l2 l3 = some ((r1, r2, r3), (r4, r5, r6), (r7, r8, r9), (r10, r11, r12))) : okF r1 r2 r3 = true ∧ okF r4 r5 r6 = true ∧ okF r7 r8 r9 = true ∧ okF r10 r11 r12 = true := by
  obtain ⟨-, -, e1, e2, e3, e4⟩ := sadd_some h
  exact ⟨(sum_some e1).2.2.1, (sum_some e2).2.2.1, (sum_some e3).2.2.1, (sum_some e4).2.2.1⟩
theorem stimes_ok {a1 a2 a3 b1 b2 b3 c1 c2 c3 d1 d2 d3 q1 q2 q3 r1 r2 r3 r4 r5 r6 r7 r8 r9 r10 r11 r12 : Int} (h : stimesF a1 a2 a3 b1 b2 b3 c1 c2 c3 d1 d2 d3 q1 q2 q3 = some ((r1, r2, r3), (r4, r5, r6), (r7, r8, r9), (r10, r11, r12))) : okF r1 r2 r3 = true ∧ okF r4 r5 r6 = true ∧ okF r7 r8 r9 = true ∧ okF r10 r11 r12 = true := by
  obtain ⟨-, -, e1, e2, e3, e4⟩ := stimes_some h
  exact ⟨(times_some e1).2.2.1, (times_some e2).2.2.1, (times_some e3).2.2.1, (times_some e4).2.2.1⟩
end Go.Proofs.YtnfbopaafciiiabDoor
