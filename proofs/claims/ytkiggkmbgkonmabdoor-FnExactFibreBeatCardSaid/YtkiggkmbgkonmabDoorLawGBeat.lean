/-
  The exact law of FibreBeat.
-/
import Derived.Test.YtkiggkmbgkonmabDoorSpecG4
import Derived.Test.YtkiggkmbgkonmabDoorImplG7
import Derived.Test.YtkiggkmbgkonmabDoorLawSe0
namespace Go.Proofs.YtkiggkmbgkonmabDoor
open Go.ChangeShapes Go.WideShapes Go.ChangeAt Go.RowKit
set_option linter.unusedVariables false

set_option linter.unusedSimpArgs false
set_option maxHeartbeats 8000000 in
theorem exactFibreBeat (n1 n2 n3 q : Int) (hn1 : i64B n1) (hn2 : i64B n2) (hn3 : i64B n3) (hq : i64B q) (w : World) (hl : Laid w) : Calls Tryd.prog 3 #[.agg #[.int .i64 n1, .int .i64 n2, .int .i64 n3, .int .i64 q]] w (Fine w) := by
  have HL := Lib.hid fun W (k : Acc w W) => hl.acc k
  clear hl
  have HS := Lib.hid fun w => specBeat_any n1 n2 n3 q hn1 hn2 hn3 hq w
  have HP := Lib.hid fun (W : World) (k : Acc w W) => implBeat_any n1 n2 n3 q W (HL.out W k)
  unfold beatV at HS HP
  clear hn1 hn2 hn3 hq
  obtain ⟨u, hu⟩ : ∃ u, (if okS ((n1, n2, n3), q) = true then beatI n3 else 0) = u := ⟨_, rfl⟩
  obtain ⟨v, hv⟩ : ∃ v, okS ((n1, n2, n3), q) = v := ⟨_, rfl⟩
  rw [hu, hv] at HS HP
  clear hu hv
  go_enter Tryd.func3, Tryd.ntmps3
  go_wp2_with fail
  refine (toSection_any n1 n2 n3 q _).mono ?_
  rintro e W1 ⟨rfl, hb⟩
  have Ba : Blk W1 (w.heap.size) [.int .i64 n1, .int .i64 n2, .int .i64 n3, .int .i64 q] := Blk.keep hb (by repeat' (first | (with_reducible first | assumption | refine Blk.drew ?_ | refine Blk.drewN ?_ _ | apply Blk.set | (refine Blk.new ?_; focus (first | rfl | (simp; done))) | refine Blk.alloc ?_ _ | refine Blk.other ?_ ?_ _) | exact eqL rfl | (refine neB ?_; omega)))
  have ca := Ba.cell
  have fa := Ba.free
  have la_W1 := Ba.lt
  have kaW1 : Acc w W1 := by
    refine Acc.call ?_ hb
    (repeat' (first | (with_reducible first | assumption | exact Acc.refl _ | refine Acc.drew ?_ | refine Acc.drewN ?_ _ | refine Acc.alloc ?_ _ | refine Acc.setCell ?_ ?_ _) | (refine leB ?_; omega)))
  clear hb
  go_wp2_with fail
  refine (HS.out _).mono ?_
  rintro e W2 ⟨rfl, hb⟩
  have Ba : Blk W2 (w.heap.size) [.int .i64 n1, .int .i64 n2, .int .i64 n3, .int .i64 q] := Blk.keep hb (by repeat' (first | (with_reducible first | assumption | refine Blk.drew ?_ | refine Blk.drewN ?_ _ | apply Blk.set | (refine Blk.new ?_; focus (first | rfl | (simp; done))) | refine Blk.alloc ?_ _ | refine Blk.other ?_ ?_ _) | exact eqL rfl | (refine neB ?_; omega)))
  have ca := Ba.cell
  have fa := Ba.free
  have la_W2 := Ba.lt
  have kaW2 : Acc w W2 := by
    refine Acc.call ?_ hb
    (repeat' (first | (with_reducible first | assumption | exact Acc.refl _ | refine Acc.drew ?_ | refine Acc.drewN ?_ _ | refine Acc.alloc ?_ _ | refine Acc.setCell ?_ ?_ _) | (refine leB ?_; omega)))
  clear hb
  go_wp2_with fail
  refine (toSection_any n1 n2 n3 q _).mono ?_
  rintro e W3 ⟨rfl, hb⟩
  have Ba : Blk W3 (w.heap.size) [.int .i64 n1, .int .i64 n2, .int .i64 n3, .int .i64 q] := Blk.keep hb (by repeat' (first | (with_reducible first | assumption | refine Blk.drew ?_ | refine Blk.drewN ?_ _ | apply Blk.set | (refine Blk.new ?_; focus (first | rfl | (simp; done))) | refine Blk.alloc ?_ _ | refine Blk.other ?_ ?_ _) | exact eqL rfl | (refine neB ?_; omega)))
  have ca := Ba.cell
  have fa := Ba.free
  have la_W3 := Ba.lt
  have kaW3 : Acc w W3 := by
    refine Acc.call ?_ hb
    (repeat' (first | (with_reducible first | assumption | exact Acc.refl _ | refine Acc.drew ?_ | refine Acc.drewN ?_ _ | refine Acc.alloc ?_ _ | refine Acc.setCell ?_ ?_ _) | (refine leB ?_; omega)))
  clear hb
  go_wp2_with fail
  refine (HP.out _ (by repeat' (first | (with_reducible first | assumption | exact Acc.refl _ | refine Acc.drew ?_ | refine Acc.drewN ?_ _ | refine Acc.alloc ?_ _ | refine Acc.setCell ?_ ?_ _) | (refine leB ?_; omega)))).mono ?_
  rintro e W4 ⟨rfl, hb⟩
  have Ba : Blk W4 (w.heap.size) [.int .i64 n1, .int .i64 n2, .int .i64 n3, .int .i64 q] := Blk.keep hb (by repeat' (first | (with_reducible first | assumption | refine Blk.drew ?_ | refine Blk.drewN ?_ _ | apply Blk.set | (refine Blk.new ?_; focus (first | rfl | (simp; done))) | refine Blk.alloc ?_ _ | refine Blk.other ?_ ?_ _) | exact eqL rfl | (refine neB ?_; omega)))
  have ca := Ba.cell
  have fa := Ba.free
  have la_W4 := Ba.lt
  have kaW4 : Acc w W4 := by
    refine Acc.call ?_ hb
    (repeat' (first | (with_reducible first | assumption | exact Acc.refl _ | refine Acc.drew ?_ | refine Acc.drewN ?_ _ | refine Acc.alloc ?_ _ | refine Acc.setCell ?_ ?_ _) | (refine leB ?_; omega)))
  clear hb
  cases v <;> (go_wp2_with fail; go_ret; refine ⟨rfl, ?_⟩; show Acc w _; (repeat' (first | (with_reducible first | assumption | exact Acc.refl _ | refine Acc.drew ?_ | refine Acc.drewN ?_ _ | refine Acc.alloc ?_ _ | refine Acc.setCell ?_ ?_ _) | (refine leB ?_; omega))))
end Go.Proofs.YtkiggkmbgkonmabDoor
