/-
  The program's elements: rotators, powers of i.
-/
import Derived.Test.YtkdkeacfifjjoaaDoorImplM1
import Derived.Test.YtkdkeacfifjjoaaDoorBMath
import Derived.Deep.RegionHeld3
import Derived.Deep.RegionWith
import Derived.Deep.QuietTactic
import Derived.BigQuiet
namespace Go.Proofs.YtkdkeacfifjjoaaDoor
open Go.ChangeShapes Go.WideShapes Go.ChangeAt Go.RowKit
set_option linter.unusedVariables false

set_option maxHeartbeats 4000000 in
theorem chkPh_yes (k : Int) (h0 : 0 ≤ k) (h1 : k ≤ 3) (w : World) : Calls Tryd.prog 34 #[.int .i64 k] w fun e w' => e = .returned .nilIface ∧ Below w.heap.size w w' := by
  have t1 : ¬ k < 0 := by omega
  have t2 : ¬ 4 ≤ k := by omega
  go_enter Tryd.func34, Tryd.ntmps34
  go_wp2_with fail
  go_ret
  refine ⟨rfl, ?_⟩
  show Acc w _
  (repeat' (first | (with_reducible first | assumption | exact Acc.refl _ | refine Acc.drew ?_ | refine Acc.drewN ?_ _ | refine Acc.alloc ?_ _ | refine Acc.setCell ?_ ?_ _) | (refine leB ?_; omega)))
set_option maxHeartbeats 4000000 in
theorem chkPh_no (k : Int) (hk : k < 0 ∨ 4 ≤ k) (w : World) : Calls Tryd.prog 34 #[.int .i64 k] w fun e w' => (∃ s, e = .returned (.iface 55 (.agg #[.string s]))) ∧ Below w.heap.size w w' := by
  rcases hk with hk | hk
  · skip
    go_enter Tryd.func34, Tryd.ntmps34
    go_wp2_with fail
    go_ret
    refine ⟨⟨_, rfl⟩, ?_⟩
    show Acc w _
    (repeat' (first | (with_reducible first | assumption | exact Acc.refl _ | refine Acc.drew ?_ | refine Acc.drewN ?_ _ | refine Acc.alloc ?_ _ | refine Acc.setCell ?_ ?_ _) | (refine leB ?_; omega)))
  · skip
    have hk0 : ¬ k < 0 := by omega
    go_enter Tryd.func34, Tryd.ntmps34
    go_wp2_with fail
    go_ret
    refine ⟨⟨_, rfl⟩, ?_⟩
    show Acc w _
    (repeat' (first | (with_reducible first | assumption | exact Acc.refl _ | refine Acc.drew ?_ | refine Acc.drewN ?_ _ | refine Acc.alloc ?_ _ | refine Acc.setCell ?_ ?_ _) | (refine leB ?_; omega)))
end Go.Proofs.YtkdkeacfifjjoaaDoor
