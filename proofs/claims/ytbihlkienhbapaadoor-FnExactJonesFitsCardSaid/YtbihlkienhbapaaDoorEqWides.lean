/-
  Comparison of arrays of two wide numbers.
-/
import Derived.Test.YtbihlkienhbapaaDoorMem
import Derived.Laws.StructEq
import Derived.KernelRfl
namespace Go.Proofs.YtbihlkienhbapaaDoor
open Go.ChangeShapes Go.WideShapes Go.ChangeAt Go.RowKit
set_option linter.unusedVariables false

theorem eqWides (p q r s p' q' r' s' : Nat) (k : Bool) (e : ((FloatKind.f64.format.order p p' == some .eq && FloatKind.f64.format.order q q' == some .eq) && (FloatKind.f64.format.order r r' == some .eq && FloatKind.f64.format.order s s' == some .eq)) = k) (w : World) : (Op.equalIn 10000 82 (.agg #[.complex .f64 p q, .complex .f64 r s]) (.agg #[.complex .f64 p' q', .complex .f64 r' s'])).run Tryd.prog w = .ok k w := by
  subst e
  have f3 := Tryd.isAgg44
  have z3 := Tryd.sizeOf44
  have E : ∀ (d : Nat) (a b c e : Nat) (w : World), (Op.equalIn (d + 1) 44 (.complex .f64 a b) (.complex .f64 c e)).run Tryd.prog w = .ok (FloatKind.f64.format.order a c == some .eq && FloatKind.f64.format.order b e == some .eq) w := fun d a b c e w => by
    simp [Op.equalIn, run_underlying Tryd.underlying44, Op.floatEq]
  rw [show (10000 : Nat) = 9999 + 1 from rfl, Op.equalIn]
  simp only [Sem.run_bind, run_underlying Tryd.underlying82, Result.andThen_ok]
  simp only [Std.Legacy.Range.forIn_eq_forIn_range', Std.Legacy.Range.size, Nat.sub_zero, Nat.add_sub_cancel, Nat.div_one, List.range'_succ, List.range'_zero, List.forIn_cons, List.forIn_nil]
  have E' := E 9998
  go_simp
  by_cases h1 : FloatKind.f64.format.order p p' = some .eq <;> by_cases h2 : FloatKind.f64.format.order q q' = some .eq <;> by_cases h3 : FloatKind.f64.format.order r r' = some .eq <;> by_cases h4 : FloatKind.f64.format.order s s' = some .eq <;> simp [h1, h2, h3, h4]
end Go.Proofs.YtbihlkienhbapaaDoor
