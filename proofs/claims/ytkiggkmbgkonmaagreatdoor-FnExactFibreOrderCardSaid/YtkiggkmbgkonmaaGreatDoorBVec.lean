/-
  The program's vectors.
-/
import Derived.Test.YtkiggkmbgkonmaaGreatDoorBMem
import Derived.Test.YtkiggkmbgkonmaaGreatDoorBImplF
import Derived.Test.YtkiggkmbgkonmaaGreatDoorBSpecV
import Derived.Deep.RegionWith
import Derived.Test.YtkiggkmbgkonmaaGreatDoorBSpecF
import Derived.Test.YtkiggkmbgkonmaaGreatDoorEqVec
import Derived.Deep.RegionHeld3
import Derived.BigQuiet
namespace Go.Proofs.YtkiggkmbgkonmaaGreatDoor
open Go.ChangeShapes Go.WideShapes Go.ChangeAt Go.RowKit
set_option linter.unusedVariables false

/-- What 'alike' hands back. -/
def ErredB (o : Option Bool) (w : World) (e : Ending) (w' : World) : Prop :=
  (∀ k, o = some k → e = .returned (.tuple #[.bool k, .nilIface])) ∧ (o = none → ∃ s, e = .returned (.tuple #[.bool false, .iface 121 (.agg #[.string s])])) ∧ Below w.heap.size w w'
set_option maxHeartbeats 1000000 in
theorem toldBool_ok (k : Bool) (w : World) : Calls Tryz.prog 69 #[.bool k, .nilIface] w fun e w' => e = .returned (.tuple #[.bool k, .bool true]) ∧ Below w.heap.size w w' := by
  go_enter Tryz.func69, Tryz.ntmps69
  go_wp2_with fail
  refine (isNone_nil _).mono ?_
  rintro e w1 ⟨rfl, hb⟩
  go_wp2_with fail
  go_ret2
  exact ⟨rfl, hb⟩
set_option maxHeartbeats 1000000 in
theorem toldBool_err (k : Bool) (s : ByteArray) (w : World) (hl : Laid w) : Calls Tryz.prog 69 #[.bool k, .iface 121 (.agg #[.string s])] w fun e w' => e = .returned (.tuple #[.bool false, .bool false]) ∧ Below w.heap.size w w' := by
  go_enter Tryz.func69, Tryz.ntmps69
  go_wp2_with fail
  refine (isNone_hit s _ hl).mono ?_
  rintro e w1 ⟨rfl, hb⟩
  go_wp2_with fail
  go_ret2
  exact ⟨rfl, hb⟩
set_option maxHeartbeats 1000000 in
theorem holds_ok (k : Bool) (w : World) : Calls Tryz.prog 46 #[.bool k, .nilIface] w fun e w' => e = .returned (.bool k) ∧ Below w.heap.size w w' := by
  go_enter Tryz.func46, Tryz.ntmps46
  go_wp2_with fail
  refine (toldBool_ok k _).mono ?_
  rintro e w1 ⟨rfl, hb⟩
  go_wp2_with fail
  all_goals
    go_ret
    exact ⟨by first | rfl | (simp [*]; done), hb⟩
set_option maxHeartbeats 1000000 in
theorem holds_err (k : Bool) (s : ByteArray) (w : World) (hl : Laid w) : Calls Tryz.prog 46 #[.bool k, .iface 121 (.agg #[.string s])] w fun e w' => e = .returned (.bool false) ∧ Below w.heap.size w w' := by
  go_enter Tryz.func46, Tryz.ntmps46
  go_wp2_with fail
  refine (toldBool_err k s _ hl).mono ?_
  rintro e w1 ⟨rfl, hb⟩
  go_wp2_with fail
  all_goals
    go_ret
    exact ⟨by first | rfl | (simp [*]; done), hb⟩
end Go.Proofs.YtkiggkmbgkonmaaGreatDoor
