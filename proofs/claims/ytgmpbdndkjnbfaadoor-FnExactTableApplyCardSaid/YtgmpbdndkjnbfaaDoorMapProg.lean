/-
  Maps of four numbers in this program.
-/
import Derived.Test.YtgmpbdndkjnbfaaDoorMap
import Derived.Test.YtgmpbdndkjnbfaaDoorBMathA
import Derived.Test.YtgmpbdndkjnbfaaDoorBVec
namespace Go.Proofs.YtgmpbdndkjnbfaaDoor
open Go.ChangeShapes Go.WideShapes Go.ChangeAt Go.RowKit
set_option linter.unusedVariables false

theorem upd0 : ∀ (b : Nat) (v : Value) (w : World), (mapOf w b).map List.length = some 0 → (Instr.mapUpdate 58 (.map (some b)) (.int .i64 0) v).run Tryd.prog w = .ok () (mapPut w b 0 v) := fun b v w h => update_map Tryd.underlying58 Tryd.underlying87 0 b v w h
theorem look0 (b : Nat) (v0 v1 v2 v3 : Value) : ∀ w, mapOf w b = some [v0, v1, v2, v3] → (Instr.lookup 58 (.map (some b)) (.int .i64 0) false).run Tryd.prog w = .ok v0 w := fun w h => lookup_map Tryd.underlying58 Tryd.underlying87 0 rfl w h
theorem upd1 : ∀ (b : Nat) (v : Value) (w : World), (mapOf w b).map List.length = some 1 → (Instr.mapUpdate 58 (.map (some b)) (.int .i64 1) v).run Tryd.prog w = .ok () (mapPut w b 1 v) := fun b v w h => update_map Tryd.underlying58 Tryd.underlying87 1 b v w h
theorem look1 (b : Nat) (v0 v1 v2 v3 : Value) : ∀ w, mapOf w b = some [v0, v1, v2, v3] → (Instr.lookup 58 (.map (some b)) (.int .i64 1) false).run Tryd.prog w = .ok v1 w := fun w h => lookup_map Tryd.underlying58 Tryd.underlying87 1 rfl w h
theorem upd2 : ∀ (b : Nat) (v : Value) (w : World), (mapOf w b).map List.length = some 2 → (Instr.mapUpdate 58 (.map (some b)) (.int .i64 2) v).run Tryd.prog w = .ok () (mapPut w b 2 v) := fun b v w h => update_map Tryd.underlying58 Tryd.underlying87 2 b v w h
theorem look2 (b : Nat) (v0 v1 v2 v3 : Value) : ∀ w, mapOf w b = some [v0, v1, v2, v3] → (Instr.lookup 58 (.map (some b)) (.int .i64 2) false).run Tryd.prog w = .ok v2 w := fun w h => lookup_map Tryd.underlying58 Tryd.underlying87 2 rfl w h
theorem upd3 : ∀ (b : Nat) (v : Value) (w : World), (mapOf w b).map List.length = some 3 → (Instr.mapUpdate 58 (.map (some b)) (.int .i64 3) v).run Tryd.prog w = .ok () (mapPut w b 3 v) := fun b v w h => update_map Tryd.underlying58 Tryd.underlying87 3 b v w h
theorem look3 (b : Nat) (v0 v1 v2 v3 : Value) : ∀ w, mapOf w b = some [v0, v1, v2, v3] → (Instr.lookup 58 (.map (some b)) (.int .i64 3) false).run Tryd.prog w = .ok v3 w := fun w h => lookup_map Tryd.underlying58 Tryd.underlying87 3 rfl w h
theorem lookN : ∀ (n : Int) (w : World), (Instr.lookup 58 (.map none) (.int .i64 n) false).run Tryd.prog w = .ok (.agg #[.int .i64 0, .int .i64 0, .int .i64 0]) w := lookup_nil Tryd.underlying58 Tryd.underlying87 (fun w => by kernel_rfl)
/-- Four numbers as a map, and no error; or no map, and an error. -/
def ErredM (o : Option ((Int × Int × Int) × (Int × Int × Int) × (Int × Int × Int) × (Int × Int × Int))) (w : World) (e : Ending) (w' : World) : Prop :=
  (∀ a1 a2 a3 b1 b2 b3 c1 c2 c3 d1 d2 d3, o = some ((a1, a2, a3), (b1, b2, b3), (c1, c2, c3), (d1, d2, d3)) → ∃ B, w.heap.size ≤ B ∧ e = .returned (.tuple #[.map (some B), .nilIface]) ∧ Mp w' B [.agg #[.int .i64 a1, .int .i64 a2, .int .i64 a3], .agg #[.int .i64 b1, .int .i64 b2, .int .i64 b3], .agg #[.int .i64 c1, .int .i64 c2, .int .i64 c3], .agg #[.int .i64 d1, .int .i64 d2, .int .i64 d3]]) ∧ (o = none → ∃ s, e = .returned (.tuple #[.map none, .iface 113 (.agg #[.string s])])) ∧ Below w.heap.size w w'
end Go.Proofs.YtgmpbdndkjnbfaaDoor
