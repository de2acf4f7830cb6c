/-
  Contracts of vectors at told results.
-/
import Derived.Test.YtnfbopaafciiiabDoorBSpecV
import Derived.Test.YtnfbopaafciiiabDoorImplTold
namespace Go.Proofs.YtnfbopaafciiiabDoor
open Go.ChangeShapes Go.WideShapes Go.ChangeAt Go.RowKit
set_option linter.unusedVariables false

theorem gave6_some {o : Option ((Int × Int × Int) × (Int × Int × Int))} {u1 u2 u3 v1 v2 v3 : Int} (h : o = some ((u1, u2, u3), (v1, v2, v3))) {P : Program} {f : FuncId} {ar : Array Value} {w : World} (c : Calls P f ar w (Gave6 o w)) :
    Calls P f ar w fun e w' => e = .returned (.tuple #[.agg #[.int .i64 u1, .int .i64 u2, .int .i64 u3, .int .i64 v1, .int .i64 v2, .int .i64 v3], .bool true]) ∧ Below w.heap.size w w' := c.mono fun e w' k => ⟨k.1 _ _ _ _ _ _ h, k.2.2⟩
theorem gave6_none {o : Option ((Int × Int × Int) × (Int × Int × Int))} (h : o = none) {P : Program} {f : FuncId} {ar : Array Value} {w : World} (c : Calls P f ar w (Gave6 o w)) :
    Calls P f ar w fun e w' => e = .returned (.tuple #[.agg #[.int .i64 0, .int .i64 0, .int .i64 0, .int .i64 0, .int .i64 0, .int .i64 0], .bool false]) ∧ Below w.heap.size w w' := c.mono fun e w' k => ⟨k.2.1 h, k.2.2⟩
/-- A told vector, its letters open. -/
theorem gave6_any (o : Option ((Int × Int × Int) × (Int × Int × Int))) : ∃ r1 r2 r3 r4 r5 r6 : Int, ∃ k : Bool, (∀ P f ar w, Calls P f ar w (Gave6 o w) → Calls P f ar w fun e w' => e = .returned (.tuple #[.agg #[.int .i64 r1, .int .i64 r2, .int .i64 r3, .int .i64 r4, .int .i64 r5, .int .i64 r6], .bool k]) ∧ Below w.heap.size w w') := by
  cases o with
  | none => exact ⟨0, 0, 0, 0, 0, 0, false, fun P f ar w c => gave6_none rfl c⟩
  | some v =>
    obtain ⟨⟨u1, u2, u3⟩, v1, v2, v3⟩ := v
    exact ⟨u1, u2, u3, v1, v2, v3, true, fun P f ar w c => gave6_some rfl c⟩
/-- A told vector, its letters open, of ints of 64 bits. -/
theorem gave6_i64 {o : Option ((Int × Int × Int) × (Int × Int × Int))} (hb : ∀ u1 u2 u3 v1 v2 v3, o = some ((u1, u2, u3), (v1, v2, v3)) → okF u1 u2 u3 = true ∧ okF v1 v2 v3 = true) : ∃ r1 r2 r3 r4 r5 r6 : Int, ∃ k : Bool, (i64B r1 ∧ i64B r2 ∧ i64B r3 ∧ i64B r4 ∧ i64B r5 ∧ i64B r6) ∧ (∀ P f ar w, Calls P f ar w (Gave6 o w) → Calls P f ar w fun e w' => e = .returned (.tuple #[.agg #[.int .i64 r1, .int .i64 r2, .int .i64 r3, .int .i64 r4, .int .i64 r5, .int .i64 r6], .bool k]) ∧ Below w.heap.size w w') := by
  cases o with
  | none => exact ⟨0, 0, 0, 0, 0, 0, false, by unfold i64B; omega, fun P f ar w c => gave6_none rfl c⟩
  | some v =>
    obtain ⟨⟨u1, u2, u3⟩, v1, v2, v3⟩ := v
    obtain ⟨h1, h2⟩ := hb _ _ _ _ _ _ rfl
    obtain ⟨a1, a2, a3⟩ := okF_i64 h1
    obtain ⟨b1, b2, b3⟩ := okF_i64 h2
    exact ⟨u1, u2, u3, v1, v2, v3, true, ⟨a1, a2, a3, b1, b2, b3⟩, fun P f ar w c => gave6_some rfl c⟩
theorem cmp_open (o : Option Int) : ∃ n : Int, ∃ k : Bool, cmpV o = .tuple #[.int .i64 n, .bool k] := by
  cases o with
  | none => exact ⟨0, false, rfl⟩
  | some n => exact ⟨n, true, rfl⟩
theorem cmpv_any {o : Option Int} {v : Value} (h : cmpV o = v) {P : Program} {f : FuncId} {ar : Array Value} {w : World} (c : Calls P f ar w fun e w' => e = .returned (cmpV o) ∧ Below w.heap.size w w') :
    Calls P f ar w fun e w' => e = .returned v ∧ Below w.heap.size w w' := by subst h; exact c
theorem sum_ok {s x y z a b c p q r : Int} (h : sumF s x y z a b c = some (p, q, r)) : okF p q r = true := (sum_some h).2.2.1
theorem times_ok {x y z a b c p q r : Int} (h : timesF x y z a b c = some (p, q, r)) : okF p q r = true := (times_some h).2.2.1
theorem power_ok {x y z p q r : Int} (h : powerF x y z = some (p, q, r)) : okF p q r = true := (power_some h).2.1
theorem jpow_ok {x1 x2 x3 y1 y2 y3 p q r : Int} (h : jpowF x1 x2 x3 y1 y2 y3 = some (p, q, r)) : okF p q r = true := (jpow_val h).2.2.1
theorem inner_ok {x1 x2 x3 y1 y2 y3 a1 a2 a3 b1 b2 b3 p q r : Int} (h : innerF x1 x2 x3 y1 y2 y3 a1 a2 a3 b1 b2 b3 = some (p, q, r)) : okF p q r = true := (inner_val h).2.2.2.2.1
theorem jadd_ok {x1 x2 x3 y1 y2 y3 a1 a2 a3 b1 b2 b3 u1 u2 u3 v1 v2 v3 : Int} (h : jaddF x1 x2 x3 y1 y2 y3 a1 a2 a3 b1 b2 b3 = some ((u1, u2, u3), (v1, v2, v3))) : okF u1 u2 u3 = true ∧ okF v1 v2 v3 = true := ⟨sum_ok (pair_some h).1, sum_ok (pair_some h).2⟩
theorem jtimes_ok {x1 x2 x3 y1 y2 y3 c1 c2 c3 u1 u2 u3 v1 v2 v3 : Int} (h : jtimesF x1 x2 x3 y1 y2 y3 c1 c2 c3 = some ((u1, u2, u3), (v1, v2, v3))) : okF u1 u2 u3 = true ∧ okF v1 v2 v3 = true := ⟨times_ok (pair_some h).1, times_ok (pair_some h).2⟩
theorem i64_0 : i64B 0 := by unfold i64B; omega
theorem i64_1 : i64B 1 := by unfold i64B; omega
theorem i64_m1 : i64B (-1) := by unfold i64B; omega
end Go.Proofs.YtnfbopaafciiiabDoor
