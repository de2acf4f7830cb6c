/-
  The program's lossless matrices.
-/
import Derived.Test.YtkdkeacfifjjoabDoorImplM3
import Derived.Test.YtkdkeacfifjjoabDoorEqMx
import Derived.Test.YtkdkeacfifjjoabDoorBVec
import Derived.Deep.RegionHeld3
namespace Go.Proofs.YtkdkeacfifjjoabDoor
open Go.ChangeShapes Go.WideShapes Go.ChangeAt Go.RowKit
set_option linter.unusedVariables false

set_option maxHeartbeats 2000000 in
theorem unitMatrix_any (w : World) : Calls Tryd.prog 24 #[] w fun e w' => e = .returned (.agg #[.int .i64 1, .int .i64 0, .int .i64 1, .int .i64 0, .int .i64 0, .int .i64 1, .int .i64 0, .int .i64 0, .int .i64 1, .int .i64 1, .int .i64 0, .int .i64 1]) ∧ Below w.heap.size w w' := by
  go_enter Tryd.func24, Tryd.ntmps24
  go_wp2_with fail
  refine (diagonal_any 1 0 1 1 0 1 _).mono ?_
  rintro e W1 ⟨rfl, hb⟩
  have Bz : Blk W1 (w.heap.size) [.int .i64 0, .int .i64 0, .int .i64 0, .int .i64 0, .int .i64 0, .int .i64 0, .int .i64 0, .int .i64 0, .int .i64 0, .int .i64 0, .int .i64 0, .int .i64 0] := Blk.keep hb (by repeat' (first | (with_reducible first | assumption | refine Blk.drew ?_ | refine Blk.drewN ?_ _ | apply Blk.set | (refine Blk.new ?_; focus (first | rfl | (simp; done))) | refine Blk.alloc ?_ _ | refine Blk.other ?_ ?_ _) | exact eqL rfl | (refine neB ?_; omega)))
  have cz := Bz.cell
  have fz := Bz.free
  have lz_W1 := Bz.lt
  have kaW1 : Acc w W1 := by
    refine Acc.call ?_ hb
    (repeat' (first | (with_reducible first | assumption | exact Acc.refl _ | refine Acc.drew ?_ | refine Acc.drewN ?_ _ | refine Acc.alloc ?_ _ | refine Acc.setCell ?_ ?_ _) | (refine leB ?_; omega)))
  clear hb
  go_wp2_with fail
  refine bodyPost_ret (v := .agg #[.int .i64 1, .int .i64 0, .int .i64 1, .int .i64 0, .int .i64 0, .int .i64 1, .int .i64 0, .int .i64 0, .int .i64 1, .int .i64 1, .int .i64 0, .int .i64 1]) (by simp [results, Tryd.results24, go_sem, *]) rfl ⟨rfl, ?_⟩
  show Acc w _
  (repeat' (first | (with_reducible first | assumption | exact Acc.refl _ | refine Acc.drew ?_ | refine Acc.drewN ?_ _ | refine Acc.alloc ?_ _ | refine Acc.setCell ?_ ?_ _) | (refine leB ?_; omega)))
/-- Lossless or not, and no error; or an error. -/
def ErredLos (o : Option F4) (w : World) (e : Ending) (w' : World) : Prop :=
  (∀ x, o = some x → e = .returned (.tuple #[.bool (eqM4 x oneM), .nilIface])) ∧ (o = none → ∃ k s, e = .returned (.tuple #[.bool k, .iface 55 (.agg #[.string s])])) ∧ Below w.heap.size w w'
theorem los_getD (a1 a2 a3 b1 b2 b3 c1 c2 c3 d1 d2 d3 : Int) : losM ((a1, a2, a3), (b1, b2, b3), (c1, c2, c3), (d1, d2, d3)) = (((adjM ((a1, a2, a3), (b1, b2, b3), (c1, c2, c3), (d1, d2, d3))).bind (mulM ((a1, a2, a3), (b1, b2, b3), (c1, c2, c3), (d1, d2, d3)))).map fun x => eqM4 x oneM).getD false := by
  unfold losM eqM4
  cases (adjM ((a1, a2, a3), (b1, b2, b3), (c1, c2, c3), (d1, d2, d3))).bind (mulM ((a1, a2, a3), (b1, b2, b3), (c1, c2, c3), (d1, d2, d3))) <;> simp
end Go.Proofs.YtkdkeacfifjjoabDoor
