/-
  The program: a section joined with nothing.
-/
import Derived.Test.YtkiggkmbgkonmabDoorImplG15
import Derived.Test.YtkiggkmbgkonmabDoorImplG7
import Derived.Test.YtkiggkmbgkonmabDoorSecShort
import Derived.Deep.RegionHeld3
import Derived.Deep.RegionWith
import Derived.Deep.QuietTactic
import Derived.BigQuiet
import Derived.Test.YtkiggkmbgkonmabDoorFlag
namespace Go.Proofs.YtkiggkmbgkonmabDoor
open Go.ChangeShapes Go.WideShapes Go.ChangeAt Go.RowKit
set_option linter.unusedVariables false

set_option linter.unusedSimpArgs false
theorem beatL_any (n1 n2 q : Int) (p g : Int) (hp : inB p 0 3 = true) (hg : beatI p = g) (w : World) : Calls Tryd.prog 29 #[.agg #[.int .i64 n1, .int .i64 n2, .int .i64 p, .int .i64 q]] w fun e w' => e = .returned (.int .i64 g) ∧ Below w.heap.size w w' := by
  rw [← hg]
  exact beat_any n1 n2 p q hp w
/-- What joined leaves. -/
def JoinOut (n₀ b : Nat) (out : List L4) (w : World) (e : Ending) (w' : World) : Prop := ∃ q, e = .returned (.pointer q) ∧ Fib n₀ (b + 1) w' q out ∧ Only b w w'
set_option maxRecDepth 100000 in
set_option maxHeartbeats 16000000 in
theorem joined_nil (n₀ b : Nat) (n1 n2 n3 t : Int) (hs : okS ((n1, n2, n3), t) = true) (w : World) (hb0 : n₀ ≤ b) (Bb : Blk w b [.int .i64 n1, .int .i64 n2, .int .i64 n3, .int .i64 t, .pointer none]) : Calls Tryd.prog 51 #[.pointer (some ⟨b, 0, none⟩)] w (JoinOut n₀ b (putE [] ((n1, n2, n3), t)) w) := by
  obtain ⟨-, hk, t0, t1⟩ := okS_out hs
  have hbw : b < w.heap.size := Bb.lt
  clear hs
  rcases pha_in hk with rfl | rfl | rfl | rfl
  · skip
    have cb := Bb.cell
    have fb := Bb.free
    have lb_w := Bb.lt
    clear hk
    go_enter Tryd.func51, Tryd.ntmps51
    go_upto_region 1 with fail
    first
      | go_quiet (fail)
      | go_region_with (fail)
    all_goals
      have TB := Lib.hid fun w => beatL_any n1 n2 (t) 0 1 (by decide) rfl w
      go_upto_region 4 with fail
      go_region_with (go_at_call 29; refine (TB.out _).mono ?_; rintro e W9 ⟨rfl, hb⟩; have Bb : Blk W9 (b) [.int .i64 n1, .int .i64 n2, .int .i64 0, .int .i64 t, .pointer none] := Blk.keep hb (by repeat' (first | (with_reducible first | assumption | refine Blk.drew ?_ | refine Blk.drewN ?_ _ | apply Blk.set | (refine Blk.new ?_; focus (first | rfl | (simp; done))) | refine Blk.alloc ?_ _ | refine Blk.other ?_ ?_ _) | exact eqL rfl | (refine neB ?_; omega))); have cb := Bb.cell; have fb := Bb.free; have lb_W9 := Bb.lt; have kaW9 : Only b w W9 := (by refine Only.call ?_ hb; (repeat' (first | (with_reducible first | assumption | exact Only.refl _ _ | refine Only.drew ?_ | refine Only.drewN ?_ _ | refine Only.alloc ?_ _ | refine Only.here ?_ _ | refine Only.setCell ?_ ?_ _) | (refine leB ?_; omega)))); clear hb)
      all_goals
        go_wp2_with fail
        go_ret
        rw [putE_nil0 (s := ((n1, n2, 0), t)) (show t % 1 = 0 by omega)]
        exact ⟨none, rfl, rfl, (show Only b w _ by repeat' (first | (with_reducible first | assumption | exact Only.refl _ _ | refine Only.drew ?_ | refine Only.drewN ?_ _ | refine Only.alloc ?_ _ | refine Only.here ?_ _ | refine Only.setCell ?_ ?_ _) | (refine leB ?_; omega)))⟩
  · skip
    have cb := Bb.cell
    have fb := Bb.free
    have lb_w := Bb.lt
    clear hk
    go_enter Tryd.func51, Tryd.ntmps51
    go_upto_region 1 with fail
    first
      | go_quiet (fail)
      | go_region_with (fail)
    all_goals
      have TB := Lib.hid fun w => beatL_any n1 n2 (t) 1 4 (by decide) rfl w
      go_upto_region 4 with fail
      go_region_with (go_at_call 29; refine (TB.out _).mono ?_; rintro e W9 ⟨rfl, hb⟩; have Bb : Blk W9 (b) [.int .i64 n1, .int .i64 n2, .int .i64 1, .int .i64 t, .pointer none] := Blk.keep hb (by repeat' (first | (with_reducible first | assumption | refine Blk.drew ?_ | refine Blk.drewN ?_ _ | apply Blk.set | (refine Blk.new ?_; focus (first | rfl | (simp; done))) | refine Blk.alloc ?_ _ | refine Blk.other ?_ ?_ _) | exact eqL rfl | (refine neB ?_; omega))); have cb := Bb.cell; have fb := Bb.free; have lb_W9 := Bb.lt; have kaW9 : Only b w W9 := (by refine Only.call ?_ hb; (repeat' (first | (with_reducible first | assumption | exact Only.refl _ _ | refine Only.drew ?_ | refine Only.drewN ?_ _ | refine Only.alloc ?_ _ | refine Only.here ?_ _ | refine Only.setCell ?_ ?_ _) | (refine leB ?_; omega)))); clear hb)
      all_goals
        by_cases hz : (t) % 4 = 0
        · skip
          go_wp2_with fail
          go_ret
          rw [putE_nil0 (s := ((n1, n2, 1), t)) (show t % 4 = 0 by omega)]
          exact ⟨none, rfl, rfl, (show Only b w _ by repeat' (first | (with_reducible first | assumption | exact Only.refl _ _ | refine Only.drew ?_ | refine Only.drewN ?_ _ | refine Only.alloc ?_ _ | refine Only.here ?_ _ | refine Only.setCell ?_ ?_ _) | (refine leB ?_; omega)))⟩
        · skip
          have hz2 : ((t) % 4 == 0) = false := by simp [hz]
          go_wp2_with fail
          go_ret
          rw [putE_nil1 (s := ((n1, n2, 1), t)) (show ¬ t % 4 = 0 by omega)]
          exact ⟨some ⟨b, 0, none⟩, rfl, ⟨b, none, rfl, hb0, Nat.lt_succ_self _, (show Blk _ _ [.int .i64 n1, .int .i64 n2, .int .i64 1, .int .i64 ((t) % 4), .pointer none] by repeat' (first | (with_reducible first | assumption | refine Blk.drew ?_ | refine Blk.drewN ?_ _ | apply Blk.set | (refine Blk.new ?_; focus (first | rfl | (simp; done))) | refine Blk.alloc ?_ _ | refine Blk.other ?_ ?_ _) | exact eqL rfl | (refine neB ?_; omega))), rfl⟩, (show Only b w _ by repeat' (first | (with_reducible first | assumption | exact Only.refl _ _ | refine Only.drew ?_ | refine Only.drewN ?_ _ | refine Only.alloc ?_ _ | refine Only.here ?_ _ | refine Only.setCell ?_ ?_ _) | (refine leB ?_; omega)))⟩
  · skip
    have cb := Bb.cell
    have fb := Bb.free
    have lb_w := Bb.lt
    clear hk
    go_enter Tryd.func51, Tryd.ntmps51
    go_upto_region 1 with fail
    first
      | go_quiet (fail)
      | go_region_with (fail)
    all_goals
      have TB := Lib.hid fun w => beatL_any n1 n2 (t) 2 2 (by decide) rfl w
      go_upto_region 4 with fail
      go_region_with (go_at_call 29; refine (TB.out _).mono ?_; rintro e W9 ⟨rfl, hb⟩; have Bb : Blk W9 (b) [.int .i64 n1, .int .i64 n2, .int .i64 2, .int .i64 t, .pointer none] := Blk.keep hb (by repeat' (first | (with_reducible first | assumption | refine Blk.drew ?_ | refine Blk.drewN ?_ _ | apply Blk.set | (refine Blk.new ?_; focus (first | rfl | (simp; done))) | refine Blk.alloc ?_ _ | refine Blk.other ?_ ?_ _) | exact eqL rfl | (refine neB ?_; omega))); have cb := Bb.cell; have fb := Bb.free; have lb_W9 := Bb.lt; have kaW9 : Only b w W9 := (by refine Only.call ?_ hb; (repeat' (first | (with_reducible first | assumption | exact Only.refl _ _ | refine Only.drew ?_ | refine Only.drewN ?_ _ | refine Only.alloc ?_ _ | refine Only.here ?_ _ | refine Only.setCell ?_ ?_ _) | (refine leB ?_; omega)))); clear hb)
      all_goals
        by_cases hz : (t) % 2 = 0
        · skip
          go_wp2_with fail
          go_ret
          rw [putE_nil0 (s := ((n1, n2, 2), t)) (show t % 2 = 0 by omega)]
          exact ⟨none, rfl, rfl, (show Only b w _ by repeat' (first | (with_reducible first | assumption | exact Only.refl _ _ | refine Only.drew ?_ | refine Only.drewN ?_ _ | refine Only.alloc ?_ _ | refine Only.here ?_ _ | refine Only.setCell ?_ ?_ _) | (refine leB ?_; omega)))⟩
        · skip
          have hz2 : ((t) % 2 == 0) = false := by simp [hz]
          go_wp2_with fail
          go_ret
          rw [putE_nil1 (s := ((n1, n2, 2), t)) (show ¬ t % 2 = 0 by omega)]
          exact ⟨some ⟨b, 0, none⟩, rfl, ⟨b, none, rfl, hb0, Nat.lt_succ_self _, (show Blk _ _ [.int .i64 n1, .int .i64 n2, .int .i64 2, .int .i64 ((t) % 2), .pointer none] by repeat' (first | (with_reducible first | assumption | refine Blk.drew ?_ | refine Blk.drewN ?_ _ | apply Blk.set | (refine Blk.new ?_; focus (first | rfl | (simp; done))) | refine Blk.alloc ?_ _ | refine Blk.other ?_ ?_ _) | exact eqL rfl | (refine neB ?_; omega))), rfl⟩, (show Only b w _ by repeat' (first | (with_reducible first | assumption | exact Only.refl _ _ | refine Only.drew ?_ | refine Only.drewN ?_ _ | refine Only.alloc ?_ _ | refine Only.here ?_ _ | refine Only.setCell ?_ ?_ _) | (refine leB ?_; omega)))⟩
  · skip
    have cb := Bb.cell
    have fb := Bb.free
    have lb_w := Bb.lt
    clear hk
    go_enter Tryd.func51, Tryd.ntmps51
    go_upto_region 1 with fail
    first
      | go_quiet (fail)
      | go_region_with (fail)
    all_goals
      have TB := Lib.hid fun w => beatL_any n1 n2 (t) 3 4 (by decide) rfl w
      go_upto_region 4 with fail
      go_region_with (go_at_call 29; refine (TB.out _).mono ?_; rintro e W9 ⟨rfl, hb⟩; have Bb : Blk W9 (b) [.int .i64 n1, .int .i64 n2, .int .i64 3, .int .i64 t, .pointer none] := Blk.keep hb (by repeat' (first | (with_reducible first | assumption | refine Blk.drew ?_ | refine Blk.drewN ?_ _ | apply Blk.set | (refine Blk.new ?_; focus (first | rfl | (simp; done))) | refine Blk.alloc ?_ _ | refine Blk.other ?_ ?_ _) | exact eqL rfl | (refine neB ?_; omega))); have cb := Bb.cell; have fb := Bb.free; have lb_W9 := Bb.lt; have kaW9 : Only b w W9 := (by refine Only.call ?_ hb; (repeat' (first | (with_reducible first | assumption | exact Only.refl _ _ | refine Only.drew ?_ | refine Only.drewN ?_ _ | refine Only.alloc ?_ _ | refine Only.here ?_ _ | refine Only.setCell ?_ ?_ _) | (refine leB ?_; omega)))); clear hb)
      all_goals
        by_cases hz : (t) % 4 = 0
        · skip
          go_wp2_with fail
          go_ret
          rw [putE_nil0 (s := ((n1, n2, 3), t)) (show t % 4 = 0 by omega)]
          exact ⟨none, rfl, rfl, (show Only b w _ by repeat' (first | (with_reducible first | assumption | exact Only.refl _ _ | refine Only.drew ?_ | refine Only.drewN ?_ _ | refine Only.alloc ?_ _ | refine Only.here ?_ _ | refine Only.setCell ?_ ?_ _) | (refine leB ?_; omega)))⟩
        · skip
          have hz2 : ((t) % 4 == 0) = false := by simp [hz]
          go_wp2_with fail
          go_ret
          rw [putE_nil1 (s := ((n1, n2, 3), t)) (show ¬ t % 4 = 0 by omega)]
          exact ⟨some ⟨b, 0, none⟩, rfl, ⟨b, none, rfl, hb0, Nat.lt_succ_self _, (show Blk _ _ [.int .i64 n1, .int .i64 n2, .int .i64 3, .int .i64 ((t) % 4), .pointer none] by repeat' (first | (with_reducible first | assumption | refine Blk.drew ?_ | refine Blk.drewN ?_ _ | apply Blk.set | (refine Blk.new ?_; focus (first | rfl | (simp; done))) | refine Blk.alloc ?_ _ | refine Blk.other ?_ ?_ _) | exact eqL rfl | (refine neB ?_; omega))), rfl⟩, (show Only b w _ by repeat' (first | (with_reducible first | assumption | exact Only.refl _ _ | refine Only.drew ?_ | refine Only.drewN ?_ _ | refine Only.alloc ?_ _ | refine Only.here ?_ _ | refine Only.setCell ?_ ?_ _) | (refine leB ?_; omega)))⟩
end Go.Proofs.YtkiggkmbgkonmabDoor
