/-
  What the exact laws do with films: one layer, the length.
-/
import Derived.Test.YtdagcjohpmolpaaGreatDoorOpenLays
import Derived.Test.YtdagcjohpmolpaaGreatDoorBLawF
namespace Go.Proofs.YtdagcjohpmolpaaGreatDoor
open Go.ChangeShapes Go.WideShapes Go.ChangeAt Go.RowKit
set_option linter.unusedVariables false

set_option linter.unusedSimpArgs false
set_option maxHeartbeats 4000000 in
theorem toLayer_any (n1 n2 n3 q : Int) (w : World) : Calls Tryz.prog 23 #[.agg #[.int .i64 n1, .int .i64 n2, .int .i64 n3, .int .i64 q]] w fun e w' => e = .returned (.agg #[.int .i64 n1, .int .i64 n2, .int .i64 n3, .int .i64 q]) ∧ Below w.heap.size w w' := by
  go_enter Tryz.func23, Tryz.ntmps23
  go_wp2_with fail
  refine (toFrac_any n1 n2 n3 _).mono ?_
  rintro e W1 ⟨rfl, hb⟩
  obtain ⟨Ba, Br, Bo⟩ : Blk W1 (w.heap.size) [.int .i64 n1, .int .i64 n2, .int .i64 n3, .int .i64 q] ∧ Blk W1 (w.heap.size + 1) [.int .i64 0, .int .i64 0, .int .i64 0, .int .i64 0] ∧ Blk W1 (w.heap.size + 1 + 1) [.int .i64 0, .int .i64 0, .int .i64 0, .int .i64 0] := by
    refine ⟨?_, ?_, ?_⟩ <;> refine Blk.keep hb ?_ <;> (repeat' (first | (with_reducible first | assumption | refine Blk.drew ?_ | refine Blk.drewN ?_ _ | apply Blk.set | (refine Blk.new ?_; focus (first | rfl | (simp; done))) | refine Blk.alloc ?_ _ | refine Blk.other ?_ ?_ _) | exact eqL rfl | (refine neB ?_; omega)))
  have ca := Ba.cell
  have fa := Ba.free
  have la_W1 := Ba.lt
  have cr := Br.cell
  have fr := Br.free
  have lr_W1 := Br.lt
  have co := Bo.cell
  have fo := Bo.free
  have lo_W1 := Bo.lt
  have kaW1 : Acc w W1 := by
    refine Acc.call ?_ hb
    (repeat' (first | (with_reducible first | assumption | exact Acc.refl _ | refine Acc.drew ?_ | refine Acc.drewN ?_ _ | refine Acc.alloc ?_ _ | refine Acc.setCell ?_ ?_ _) | (refine leB ?_; omega)))
  clear hb
  go_wp2_with fail
  refine bodyPost_ret (v := .agg #[.int .i64 n1, .int .i64 n2, .int .i64 n3, .int .i64 q]) (by simp [results, Tryz.results23, go_sem, *]) rfl ⟨rfl, ?_⟩
  show Acc w _
  (repeat' (first | (with_reducible first | assumption | exact Acc.refl _ | refine Acc.drew ?_ | refine Acc.drewN ?_ _ | refine Acc.alloc ?_ _ | refine Acc.setCell ?_ ?_ _) | (refine leB ?_; omega)))
set_option maxHeartbeats 4000000 in
theorem eqLayer_any (n1 n2 n3 q : Int) (w : World) : Calls Tryz.prog 26 #[.agg #[.int .i64 n1, .int .i64 n2, .int .i64 n3, .int .i64 q], .agg #[.int .i64 n1, .int .i64 n2, .int .i64 n3, .int .i64 q]] w fun e w' => e = .returned (.bool true) ∧ Below w.heap.size w w' := by
  go_enter Tryz.func26, Tryz.ntmps26
  go_wp2_with fail
  refine (eqFrac_any n1 n2 n3 _).mono ?_
  rintro e W1 ⟨rfl, hb⟩
  obtain ⟨Ba, Bb⟩ : Blk W1 (w.heap.size) [.int .i64 n1, .int .i64 n2, .int .i64 n3, .int .i64 q] ∧ Blk W1 (w.heap.size + 1) [.int .i64 n1, .int .i64 n2, .int .i64 n3, .int .i64 q] := by
    refine ⟨?_, ?_⟩ <;> refine Blk.keep hb ?_ <;> (repeat' (first | (with_reducible first | assumption | refine Blk.drew ?_ | refine Blk.drewN ?_ _ | apply Blk.set | (refine Blk.new ?_; focus (first | rfl | (simp; done))) | refine Blk.alloc ?_ _ | refine Blk.other ?_ ?_ _) | exact eqL rfl | (refine neB ?_; omega)))
  have ca := Ba.cell
  have fa := Ba.free
  have la_W1 := Ba.lt
  have cb := Bb.cell
  have fb := Bb.free
  have lb_W1 := Bb.lt
  have kaW1 : Acc w W1 := by
    refine Acc.call ?_ hb
    (repeat' (first | (with_reducible first | assumption | exact Acc.refl _ | refine Acc.drew ?_ | refine Acc.drewN ?_ _ | refine Acc.alloc ?_ _ | refine Acc.setCell ?_ ?_ _) | (refine leB ?_; omega)))
  clear hb
  go_wp2_with fail
  go_ret
  refine ⟨rfl, ?_⟩
  show Acc w _
  (repeat' (first | (with_reducible first | assumption | exact Acc.refl _ | refine Acc.drew ?_ | refine Acc.drewN ?_ _ | refine Acc.alloc ?_ _ | refine Acc.setCell ?_ ?_ _) | (refine leB ?_; omega)))
set_option maxHeartbeats 2000000 in
theorem szLayerS_yes (a : Option Addr) (n cap : Nat) (left : Int) (h : (n : Int) ≤ left) (hl : left ≤ 1048576) (w : World) : Calls Tryz.prog 7 #[.slice a n cap, .int .i64 left] w fun e w' => e = .returned (.int .i64 (left - n)) ∧ Below w.heap.size w w' := by
  have h0 : ¬ left - (n : Int) < 0 := by omega
  go_enter Tryz.func7, Tryz.ntmps7
  go_wp2_with fail
  go_ret
  exact ⟨rfl, Below.refl _ _⟩
set_option maxHeartbeats 2000000 in
theorem szLayerS_no (a : Option Addr) (n cap : Nat) (left : Int) (h : left < (n : Int)) (hl : 0 ≤ left) (hm : (n : Int) ≤ 9223372036854775807) (w : World) : Calls Tryz.prog 7 #[.slice a n cap, .int .i64 left] w fun e w' => e = .returned (.int .i64 (-1)) ∧ Below w.heap.size w w' := by
  have h0 : left - (n : Int) < 0 := by omega
  go_enter Tryz.func7, Tryz.ntmps7
  go_wp2_with fail
  go_ret
  exact ⟨rfl, Below.refl _ _⟩
end Go.Proofs.YtdagcjohpmolpaaGreatDoor
