/-
  The program's mirrored four numbers.
-/
import Derived.Test.YtedigdakgjaedabDoorImplN3
import Derived.Test.YtedigdakgjaedabDoorImplN2
import Derived.Deep.RegionWith
namespace Go.Proofs.YtedigdakgjaedabDoor
open Go.ChangeShapes Go.WideShapes Go.ChangeAt Go.RowKit
set_option linter.unusedVariables false

set_option maxHeartbeats 2000000 in
theorem nmirrorClo_0 (p B : Nat) (a1 a2 a3 b1 b2 b3 c1 c2 c3 d1 d2 d3 : Int)  (w : World) (Bp : Blk w p [.map (some B)]) (Ma : Mp w B [.agg #[.int .i64 a1, .int .i64 a2, .int .i64 a3], .agg #[.int .i64 b1, .int .i64 b2, .int .i64 b3], .agg #[.int .i64 c1, .int .i64 c2, .int .i64 c3], .agg #[.int .i64 d1, .int .i64 d2, .int .i64 d3]]) :
    Calls Tryd.prog 115 #[.int .i64 0, .pointer (some ⟨p, 0, none⟩)] w (Erred (some (a1, a2, a3)) w) := by
  have cp := Bp.cell
  have fp := Bp.free
  have lp_w := Bp.lt
  have ma := Ma.out
  have na_w := Ma.lt
  have qr1 := @mapOf_drew
  have qr2 := @mapOf_drewN
  have qr3 := @mapOf_cells
  have qr5 := @mapOf_setCell
  have qa0 := @look0 (B) (.agg #[.int .i64 a1, .int .i64 a2, .int .i64 a3]) (.agg #[.int .i64 b1, .int .i64 b2, .int .i64 b3]) (.agg #[.int .i64 c1, .int .i64 c2, .int .i64 c3]) (.agg #[.int .i64 d1, .int .i64 d2, .int .i64 d3])
  have qa1 := @look1 (B) (.agg #[.int .i64 a1, .int .i64 a2, .int .i64 a3]) (.agg #[.int .i64 b1, .int .i64 b2, .int .i64 b3]) (.agg #[.int .i64 c1, .int .i64 c2, .int .i64 c3]) (.agg #[.int .i64 d1, .int .i64 d2, .int .i64 d3])
  have qa2 := @look2 (B) (.agg #[.int .i64 a1, .int .i64 a2, .int .i64 a3]) (.agg #[.int .i64 b1, .int .i64 b2, .int .i64 b3]) (.agg #[.int .i64 c1, .int .i64 c2, .int .i64 c3]) (.agg #[.int .i64 d1, .int .i64 d2, .int .i64 d3])
  have qa3 := @look3 (B) (.agg #[.int .i64 a1, .int .i64 a2, .int .i64 a3]) (.agg #[.int .i64 b1, .int .i64 b2, .int .i64 b3]) (.agg #[.int .i64 c1, .int .i64 c2, .int .i64 c3]) (.agg #[.int .i64 d1, .int .i64 d2, .int .i64 d3])
  have qr1 := @mapOf_drew
  have qr2 := @mapOf_drewN
  have qr3 := @mapOf_cells
  have qr5 := @mapOf_setCell
  go_enter Tryd.func115, Tryd.ntmps115
  go_upto_region 1 with (fail)
  all_goals
    first
      | (go_region_with
          fail
         all_goals go_wp2_with fail)
      | go_wp2_with (fail)
  all_goals
    refine bodyPost_ret (v := .tuple #[.agg #[.int .i64 a1, .int .i64 a2, .int .i64 a3], .nilIface]) (by simp [results, Tryd.results115, go_sem, *]) rfl ⟨fun _ _ _ h => (by cases h; rfl), fun h => (by cases h), ?_⟩
    show Acc w _
    (repeat' (first | (with_reducible first | assumption | exact Acc.refl _ | refine Acc.drew ?_ | refine Acc.drewN ?_ _ | refine Acc.alloc ?_ _ | refine Acc.setCell ?_ ?_ _ | refine Acc.mapPut ?_ ?_ _ _) | (refine leB ?_; omega)))
set_option maxHeartbeats 2000000 in
theorem nmirrorClo_1 (p B : Nat) (a1 a2 a3 b1 b2 b3 c1 c2 c3 d1 d2 d3 : Int)  (w : World) (Bp : Blk w p [.map (some B)]) (Ma : Mp w B [.agg #[.int .i64 a1, .int .i64 a2, .int .i64 a3], .agg #[.int .i64 b1, .int .i64 b2, .int .i64 b3], .agg #[.int .i64 c1, .int .i64 c2, .int .i64 c3], .agg #[.int .i64 d1, .int .i64 d2, .int .i64 d3]]) :
    Calls Tryd.prog 115 #[.int .i64 1, .pointer (some ⟨p, 0, none⟩)] w (Erred (some (b1, b2, b3)) w) := by
  have cp := Bp.cell
  have fp := Bp.free
  have lp_w := Bp.lt
  have ma := Ma.out
  have na_w := Ma.lt
  have qr1 := @mapOf_drew
  have qr2 := @mapOf_drewN
  have qr3 := @mapOf_cells
  have qr5 := @mapOf_setCell
  have qa0 := @look0 (B) (.agg #[.int .i64 a1, .int .i64 a2, .int .i64 a3]) (.agg #[.int .i64 b1, .int .i64 b2, .int .i64 b3]) (.agg #[.int .i64 c1, .int .i64 c2, .int .i64 c3]) (.agg #[.int .i64 d1, .int .i64 d2, .int .i64 d3])
  have qa1 := @look1 (B) (.agg #[.int .i64 a1, .int .i64 a2, .int .i64 a3]) (.agg #[.int .i64 b1, .int .i64 b2, .int .i64 b3]) (.agg #[.int .i64 c1, .int .i64 c2, .int .i64 c3]) (.agg #[.int .i64 d1, .int .i64 d2, .int .i64 d3])
  have qa2 := @look2 (B) (.agg #[.int .i64 a1, .int .i64 a2, .int .i64 a3]) (.agg #[.int .i64 b1, .int .i64 b2, .int .i64 b3]) (.agg #[.int .i64 c1, .int .i64 c2, .int .i64 c3]) (.agg #[.int .i64 d1, .int .i64 d2, .int .i64 d3])
  have qa3 := @look3 (B) (.agg #[.int .i64 a1, .int .i64 a2, .int .i64 a3]) (.agg #[.int .i64 b1, .int .i64 b2, .int .i64 b3]) (.agg #[.int .i64 c1, .int .i64 c2, .int .i64 c3]) (.agg #[.int .i64 d1, .int .i64 d2, .int .i64 d3])
  have qr1 := @mapOf_drew
  have qr2 := @mapOf_drewN
  have qr3 := @mapOf_cells
  have qr5 := @mapOf_setCell
  go_enter Tryd.func115, Tryd.ntmps115
  go_upto_region 1 with (fail)
  all_goals
    first
      | (go_region_with
          fail
         all_goals go_wp2_with fail)
      | go_wp2_with (fail)
  all_goals
    refine bodyPost_ret (v := .tuple #[.agg #[.int .i64 b1, .int .i64 b2, .int .i64 b3], .nilIface]) (by simp [results, Tryd.results115, go_sem, *]) rfl ⟨fun _ _ _ h => (by cases h; rfl), fun h => (by cases h), ?_⟩
    show Acc w _
    (repeat' (first | (with_reducible first | assumption | exact Acc.refl _ | refine Acc.drew ?_ | refine Acc.drewN ?_ _ | refine Acc.alloc ?_ _ | refine Acc.setCell ?_ ?_ _ | refine Acc.mapPut ?_ ?_ _ _) | (refine leB ?_; omega)))
set_option maxHeartbeats 2000000 in
theorem nmirrorClo_2 (p B : Nat) (a1 a2 a3 b1 b2 b3 c1 c2 c3 d1 d2 d3 : Int)  (w : World) (Bp : Blk w p [.map (some B)]) (Ma : Mp w B [.agg #[.int .i64 a1, .int .i64 a2, .int .i64 a3], .agg #[.int .i64 b1, .int .i64 b2, .int .i64 b3], .agg #[.int .i64 c1, .int .i64 c2, .int .i64 c3], .agg #[.int .i64 d1, .int .i64 d2, .int .i64 d3]]) :
    Calls Tryd.prog 115 #[.int .i64 2, .pointer (some ⟨p, 0, none⟩)] w (Erred (some (c1, c2, c3)) w) := by
  have cp := Bp.cell
  have fp := Bp.free
  have lp_w := Bp.lt
  have ma := Ma.out
  have na_w := Ma.lt
  have qr1 := @mapOf_drew
  have qr2 := @mapOf_drewN
  have qr3 := @mapOf_cells
  have qr5 := @mapOf_setCell
  have qa0 := @look0 (B) (.agg #[.int .i64 a1, .int .i64 a2, .int .i64 a3]) (.agg #[.int .i64 b1, .int .i64 b2, .int .i64 b3]) (.agg #[.int .i64 c1, .int .i64 c2, .int .i64 c3]) (.agg #[.int .i64 d1, .int .i64 d2, .int .i64 d3])
  have qa1 := @look1 (B) (.agg #[.int .i64 a1, .int .i64 a2, .int .i64 a3]) (.agg #[.int .i64 b1, .int .i64 b2, .int .i64 b3]) (.agg #[.int .i64 c1, .int .i64 c2, .int .i64 c3]) (.agg #[.int .i64 d1, .int .i64 d2, .int .i64 d3])
  have qa2 := @look2 (B) (.agg #[.int .i64 a1, .int .i64 a2, .int .i64 a3]) (.agg #[.int .i64 b1, .int .i64 b2, .int .i64 b3]) (.agg #[.int .i64 c1, .int .i64 c2, .int .i64 c3]) (.agg #[.int .i64 d1, .int .i64 d2, .int .i64 d3])
  have qa3 := @look3 (B) (.agg #[.int .i64 a1, .int .i64 a2, .int .i64 a3]) (.agg #[.int .i64 b1, .int .i64 b2, .int .i64 b3]) (.agg #[.int .i64 c1, .int .i64 c2, .int .i64 c3]) (.agg #[.int .i64 d1, .int .i64 d2, .int .i64 d3])
  have qr1 := @mapOf_drew
  have qr2 := @mapOf_drewN
  have qr3 := @mapOf_cells
  have qr5 := @mapOf_setCell
  go_enter Tryd.func115, Tryd.ntmps115
  go_upto_region 1 with (fail)
  all_goals
    first
      | (go_region_with
          fail
         all_goals go_wp2_with fail)
      | go_wp2_with (fail)
  all_goals
    refine bodyPost_ret (v := .tuple #[.agg #[.int .i64 c1, .int .i64 c2, .int .i64 c3], .nilIface]) (by simp [results, Tryd.results115, go_sem, *]) rfl ⟨fun _ _ _ h => (by cases h; rfl), fun h => (by cases h), ?_⟩
    show Acc w _
    (repeat' (first | (with_reducible first | assumption | exact Acc.refl _ | refine Acc.drew ?_ | refine Acc.drewN ?_ _ | refine Acc.alloc ?_ _ | refine Acc.setCell ?_ ?_ _ | refine Acc.mapPut ?_ ?_ _ _) | (refine leB ?_; omega)))
set_option maxHeartbeats 2000000 in
theorem nmirrorClo_3 (p B : Nat) (a1 a2 a3 b1 b2 b3 c1 c2 c3 d1 d2 d3 : Int)  (hw1 : RowKit.wrap64 (-d1) = -d1) (hw2 : RowKit.wrap64 (-d2) = -d2) (w : World) (Bp : Blk w p [.map (some B)]) (Ma : Mp w B [.agg #[.int .i64 a1, .int .i64 a2, .int .i64 a3], .agg #[.int .i64 b1, .int .i64 b2, .int .i64 b3], .agg #[.int .i64 c1, .int .i64 c2, .int .i64 c3], .agg #[.int .i64 d1, .int .i64 d2, .int .i64 d3]]) :
    Calls Tryd.prog 115 #[.int .i64 3, .pointer (some ⟨p, 0, none⟩)] w (Erred (some ((-d1), (-d2), d3)) w) := by
  have D := Lib.hid fun w => opposite_any d1 d2 d3 (-d1) (-d2) w hw1 hw2
  clear hw1 hw2
  have cp := Bp.cell
  have fp := Bp.free
  have lp_w := Bp.lt
  have ma := Ma.out
  have na_w := Ma.lt
  have qr1 := @mapOf_drew
  have qr2 := @mapOf_drewN
  have qr3 := @mapOf_cells
  have qr5 := @mapOf_setCell
  have qa0 := @look0 (B) (.agg #[.int .i64 a1, .int .i64 a2, .int .i64 a3]) (.agg #[.int .i64 b1, .int .i64 b2, .int .i64 b3]) (.agg #[.int .i64 c1, .int .i64 c2, .int .i64 c3]) (.agg #[.int .i64 d1, .int .i64 d2, .int .i64 d3])
  have qa1 := @look1 (B) (.agg #[.int .i64 a1, .int .i64 a2, .int .i64 a3]) (.agg #[.int .i64 b1, .int .i64 b2, .int .i64 b3]) (.agg #[.int .i64 c1, .int .i64 c2, .int .i64 c3]) (.agg #[.int .i64 d1, .int .i64 d2, .int .i64 d3])
  have qa2 := @look2 (B) (.agg #[.int .i64 a1, .int .i64 a2, .int .i64 a3]) (.agg #[.int .i64 b1, .int .i64 b2, .int .i64 b3]) (.agg #[.int .i64 c1, .int .i64 c2, .int .i64 c3]) (.agg #[.int .i64 d1, .int .i64 d2, .int .i64 d3])
  have qa3 := @look3 (B) (.agg #[.int .i64 a1, .int .i64 a2, .int .i64 a3]) (.agg #[.int .i64 b1, .int .i64 b2, .int .i64 b3]) (.agg #[.int .i64 c1, .int .i64 c2, .int .i64 c3]) (.agg #[.int .i64 d1, .int .i64 d2, .int .i64 d3])
  have qr1 := @mapOf_drew
  have qr2 := @mapOf_drewN
  have qr3 := @mapOf_cells
  have qr5 := @mapOf_setCell
  go_enter Tryd.func115, Tryd.ntmps115
  go_upto_region 1 with ((go_at_call 116; refine (D.out _).mono ?_; rintro e W1 ⟨rfl, hb⟩; have Br : Blk W1 (w.heap.size) [.int .i64 0, .int .i64 0, .int .i64 0] := Blk.keep hb (by repeat' (first | (with_reducible first | assumption | refine Blk.drew ?_ | refine Blk.drewN ?_ _ | refine Blk.mapPut ?_ _ _ | apply Blk.set | (refine Blk.new ?_; focus (first | rfl | (simp; done))) | refine Blk.alloc ?_ _ | refine Blk.other ?_ ?_ _) | exact eqL rfl | (refine neB ?_; omega))); have Ma : Mp W1 (B) [.agg #[.int .i64 a1, .int .i64 a2, .int .i64 a3], .agg #[.int .i64 b1, .int .i64 b2, .int .i64 b3], .agg #[.int .i64 c1, .int .i64 c2, .int .i64 c3], .agg #[.int .i64 d1, .int .i64 d2, .int .i64 d3]] := Mp.keep hb (by repeat' (first | (with_reducible first | assumption | refine Mp.drew ?_ | refine Mp.drewN ?_ _ | refine Mp.set ?_ _ _ | (refine Mp.new ?_; focus (first | rfl | (simp; done)))) | (refine Mp.put (vs := []) ?_ rfl rfl) | (refine Mp.put (vs := [.agg #[.int .i64 a1, .int .i64 a2, .int .i64 a3]]) ?_ rfl rfl) | (refine Mp.put (vs := [.agg #[.int .i64 a1, .int .i64 a2, .int .i64 a3], .agg #[.int .i64 b1, .int .i64 b2, .int .i64 b3]]) ?_ rfl rfl) | (refine Mp.put (vs := [.agg #[.int .i64 a1, .int .i64 a2, .int .i64 a3], .agg #[.int .i64 b1, .int .i64 b2, .int .i64 b3], .agg #[.int .i64 c1, .int .i64 c2, .int .i64 c3]]) ?_ rfl rfl) | (with_reducible first | refine Mp.putOther ?_ ?_ _ _ | refine Mp.alloc ?_ _) | (refine neB ?_; omega))); have cr := Br.cell; have fr := Br.free; have lr_W1 := Br.lt; have ma := Ma.out; have na_W1 := Ma.lt; have kaW1 : Acc w W1 := (by refine Acc.call ?_ hb; (repeat' (first | (with_reducible first | assumption | exact Acc.refl _ | refine Acc.drew ?_ | refine Acc.drewN ?_ _ | refine Acc.alloc ?_ _ | refine Acc.setCell ?_ ?_ _ | refine Acc.mapPut ?_ ?_ _ _) | (refine leB ?_; omega)))); clear hb))
  all_goals
    first
      | (go_region_with
          (go_at_call 116; refine (D.out _).mono ?_; rintro e W1 ⟨rfl, hb⟩; have Br : Blk W1 (w.heap.size) [.int .i64 0, .int .i64 0, .int .i64 0] := Blk.keep hb (by repeat' (first | (with_reducible first | assumption | refine Blk.drew ?_ | refine Blk.drewN ?_ _ | refine Blk.mapPut ?_ _ _ | apply Blk.set | (refine Blk.new ?_; focus (first | rfl | (simp; done))) | refine Blk.alloc ?_ _ | refine Blk.other ?_ ?_ _) | exact eqL rfl | (refine neB ?_; omega))); have Ma : Mp W1 (B) [.agg #[.int .i64 a1, .int .i64 a2, .int .i64 a3], .agg #[.int .i64 b1, .int .i64 b2, .int .i64 b3], .agg #[.int .i64 c1, .int .i64 c2, .int .i64 c3], .agg #[.int .i64 d1, .int .i64 d2, .int .i64 d3]] := Mp.keep hb (by repeat' (first | (with_reducible first | assumption | refine Mp.drew ?_ | refine Mp.drewN ?_ _ | refine Mp.set ?_ _ _ | (refine Mp.new ?_; focus (first | rfl | (simp; done)))) | (refine Mp.put (vs := []) ?_ rfl rfl) | (refine Mp.put (vs := [.agg #[.int .i64 a1, .int .i64 a2, .int .i64 a3]]) ?_ rfl rfl) | (refine Mp.put (vs := [.agg #[.int .i64 a1, .int .i64 a2, .int .i64 a3], .agg #[.int .i64 b1, .int .i64 b2, .int .i64 b3]]) ?_ rfl rfl) | (refine Mp.put (vs := [.agg #[.int .i64 a1, .int .i64 a2, .int .i64 a3], .agg #[.int .i64 b1, .int .i64 b2, .int .i64 b3], .agg #[.int .i64 c1, .int .i64 c2, .int .i64 c3]]) ?_ rfl rfl) | (with_reducible first | refine Mp.putOther ?_ ?_ _ _ | refine Mp.alloc ?_ _) | (refine neB ?_; omega))); have cr := Br.cell; have fr := Br.free; have lr_W1 := Br.lt; have ma := Ma.out; have na_W1 := Ma.lt; have kaW1 : Acc w W1 := (by refine Acc.call ?_ hb; (repeat' (first | (with_reducible first | assumption | exact Acc.refl _ | refine Acc.drew ?_ | refine Acc.drewN ?_ _ | refine Acc.alloc ?_ _ | refine Acc.setCell ?_ ?_ _ | refine Acc.mapPut ?_ ?_ _ _) | (refine leB ?_; omega)))); clear hb)
         all_goals go_wp2_with fail)
      | go_wp2_with ((go_at_call 116; refine (D.out _).mono ?_; rintro e W1 ⟨rfl, hb⟩; have Br : Blk W1 (w.heap.size) [.int .i64 0, .int .i64 0, .int .i64 0] := Blk.keep hb (by repeat' (first | (with_reducible first | assumption | refine Blk.drew ?_ | refine Blk.drewN ?_ _ | refine Blk.mapPut ?_ _ _ | apply Blk.set | (refine Blk.new ?_; focus (first | rfl | (simp; done))) | refine Blk.alloc ?_ _ | refine Blk.other ?_ ?_ _) | exact eqL rfl | (refine neB ?_; omega))); have Ma : Mp W1 (B) [.agg #[.int .i64 a1, .int .i64 a2, .int .i64 a3], .agg #[.int .i64 b1, .int .i64 b2, .int .i64 b3], .agg #[.int .i64 c1, .int .i64 c2, .int .i64 c3], .agg #[.int .i64 d1, .int .i64 d2, .int .i64 d3]] := Mp.keep hb (by repeat' (first | (with_reducible first | assumption | refine Mp.drew ?_ | refine Mp.drewN ?_ _ | refine Mp.set ?_ _ _ | (refine Mp.new ?_; focus (first | rfl | (simp; done)))) | (refine Mp.put (vs := []) ?_ rfl rfl) | (refine Mp.put (vs := [.agg #[.int .i64 a1, .int .i64 a2, .int .i64 a3]]) ?_ rfl rfl) | (refine Mp.put (vs := [.agg #[.int .i64 a1, .int .i64 a2, .int .i64 a3], .agg #[.int .i64 b1, .int .i64 b2, .int .i64 b3]]) ?_ rfl rfl) | (refine Mp.put (vs := [.agg #[.int .i64 a1, .int .i64 a2, .int .i64 a3], .agg #[.int .i64 b1, .int .i64 b2, .int .i64 b3], .agg #[.int .i64 c1, .int .i64 c2, .int .i64 c3]]) ?_ rfl rfl) | (with_reducible first | refine Mp.putOther ?_ ?_ _ _ | refine Mp.alloc ?_ _) | (refine neB ?_; omega))); have cr := Br.cell; have fr := Br.free; have lr_W1 := Br.lt; have ma := Ma.out; have na_W1 := Ma.lt; have kaW1 : Acc w W1 := (by refine Acc.call ?_ hb; (repeat' (first | (with_reducible first | assumption | exact Acc.refl _ | refine Acc.drew ?_ | refine Acc.drewN ?_ _ | refine Acc.alloc ?_ _ | refine Acc.setCell ?_ ?_ _ | refine Acc.mapPut ?_ ?_ _ _) | (refine leB ?_; omega)))); clear hb))
  all_goals
    refine bodyPost_ret (v := .tuple #[.agg #[.int .i64 (-d1), .int .i64 (-d2), .int .i64 d3], .nilIface]) (by simp [results, Tryd.results115, go_sem, *]) rfl ⟨fun _ _ _ h => (by cases h; rfl), fun h => (by cases h), ?_⟩
    show Acc w _
    (repeat' (first | (with_reducible first | assumption | exact Acc.refl _ | refine Acc.drew ?_ | refine Acc.drewN ?_ _ | refine Acc.alloc ?_ _ | refine Acc.setCell ?_ ?_ _ | refine Acc.mapPut ?_ ?_ _ _) | (refine leB ?_; omega)))
set_option maxHeartbeats 8000000 in
theorem nmirror_any (a1 a2 a3 b1 b2 b3 c1 c2 c3 d1 d2 d3 : Int) (ha1 : i64B a1) (ha2 : i64B a2) (ha3 : i64B a3) (hb1 : i64B b1) (hb2 : i64B b2) (hb3 : i64B b3) (hc1 : i64B c1) (hc2 : i64B c2) (hc3 : i64B c3) (hd1 : i64B d1) (hd2 : i64B d2) (hd3 : i64B d3) (B : Nat) (w : World) (Ma : Mp w B [.agg #[.int .i64 a1, .int .i64 a2, .int .i64 a3], .agg #[.int .i64 b1, .int .i64 b2, .int .i64 b3], .agg #[.int .i64 c1, .int .i64 c2, .int .i64 c3], .agg #[.int .i64 d1, .int .i64 d2, .int .i64 d3]]) :
    Calls Tryd.prog 71 #[.map (some B)] w (ErredM (smirrorF a1 a2 a3 b1 b2 b3 c1 c2 c3 d1 d2 d3) w) := by
  have HC := Lib.hid fun W M => ncheck_any a1 a2 a3 b1 b2 b3 c1 c2 c3 d1 d2 d3 ha1 ha2 ha3 hb1 hb2 hb3 hc1 hc2 hc3 hd1 hd2 hd3 B W M
  cases hv : sValid a1 a2 a3 b1 b2 b3 c1 c2 c3 d1 d2 d3 with
  | false =>
    rw [show smirrorF a1 a2 a3 b1 b2 b3 c1 c2 c3 d1 d2 d3 = none by unfold smirrorF; rw [hv]; rfl]
    rw [hv] at HC
    clear hv
    have ma := Ma.out
    have na_w := Ma.lt
    go_enter Tryd.func71, Tryd.ntmps71
    go_wp2_with fail
    refine (HC.out _ (by repeat' (first | (with_reducible first | assumption | refine Mp.drew ?_ | refine Mp.drewN ?_ _ | refine Mp.set ?_ _ _ | (refine Mp.new ?_; focus (first | rfl | (simp; done)))) | (refine Mp.put (vs := []) ?_ rfl rfl) | (refine Mp.put (vs := [.agg #[.int .i64 a1, .int .i64 a2, .int .i64 a3]]) ?_ rfl rfl) | (refine Mp.put (vs := [.agg #[.int .i64 a1, .int .i64 a2, .int .i64 a3], .agg #[.int .i64 b1, .int .i64 b2, .int .i64 b3]]) ?_ rfl rfl) | (refine Mp.put (vs := [.agg #[.int .i64 a1, .int .i64 a2, .int .i64 a3], .agg #[.int .i64 b1, .int .i64 b2, .int .i64 b3], .agg #[.int .i64 c1, .int .i64 c2, .int .i64 c3]]) ?_ rfl rfl) | (with_reducible first | refine Mp.putOther ?_ ?_ _ _ | refine Mp.alloc ?_ _) | (refine neB ?_; omega)))).mono ?_
    rintro e W1 ⟨-, h2, hb⟩
    obtain ⟨s, rfl⟩ := h2 rfl
    clear h2
    have Bp : Blk W1 (w.heap.size) [.map (some B)] := Blk.keep hb (by repeat' (first | (with_reducible first | assumption | refine Blk.drew ?_ | refine Blk.drewN ?_ _ | refine Blk.mapPut ?_ _ _ | apply Blk.set | (refine Blk.new ?_; focus (first | rfl | (simp; done))) | refine Blk.alloc ?_ _ | refine Blk.other ?_ ?_ _) | exact eqL rfl | (refine neB ?_; omega)))
    have Ma : Mp W1 (B) [.agg #[.int .i64 a1, .int .i64 a2, .int .i64 a3], .agg #[.int .i64 b1, .int .i64 b2, .int .i64 b3], .agg #[.int .i64 c1, .int .i64 c2, .int .i64 c3], .agg #[.int .i64 d1, .int .i64 d2, .int .i64 d3]] := Mp.keep hb (by repeat' (first | (with_reducible first | assumption | refine Mp.drew ?_ | refine Mp.drewN ?_ _ | refine Mp.set ?_ _ _ | (refine Mp.new ?_; focus (first | rfl | (simp; done)))) | (refine Mp.put (vs := []) ?_ rfl rfl) | (refine Mp.put (vs := [.agg #[.int .i64 a1, .int .i64 a2, .int .i64 a3]]) ?_ rfl rfl) | (refine Mp.put (vs := [.agg #[.int .i64 a1, .int .i64 a2, .int .i64 a3], .agg #[.int .i64 b1, .int .i64 b2, .int .i64 b3]]) ?_ rfl rfl) | (refine Mp.put (vs := [.agg #[.int .i64 a1, .int .i64 a2, .int .i64 a3], .agg #[.int .i64 b1, .int .i64 b2, .int .i64 b3], .agg #[.int .i64 c1, .int .i64 c2, .int .i64 c3]]) ?_ rfl rfl) | (with_reducible first | refine Mp.putOther ?_ ?_ _ _ | refine Mp.alloc ?_ _) | (refine neB ?_; omega)))
    have cp := Bp.cell
    have fp := Bp.free
    have lp_W1 := Bp.lt
    have ma := Ma.out
    have na_W1 := Ma.lt
    have kaW1 : Acc w W1 := by
      refine Acc.call ?_ hb
      (repeat' (first | (with_reducible first | assumption | exact Acc.refl _ | refine Acc.drew ?_ | refine Acc.drewN ?_ _ | refine Acc.alloc ?_ _ | refine Acc.setCell ?_ ?_ _ | refine Acc.mapPut ?_ ?_ _ _) | (refine leB ?_; omega)))
    clear hb
    go_wp2_with fail
    go_ret2
    refine ⟨fun _ _ _ _ _ _ _ _ _ _ _ _ h => (by cases h), fun _ => ⟨_, rfl⟩, ?_⟩
    show Acc w _
    (repeat' (first | (with_reducible first | assumption | exact Acc.refl _ | refine Acc.drew ?_ | refine Acc.drewN ?_ _ | refine Acc.alloc ?_ _ | refine Acc.setCell ?_ ?_ _ | refine Acc.mapPut ?_ ?_ _ _) | (refine leB ?_; omega)))
  | true =>
    obtain ⟨gd, hd0⟩ := realB_ok (sValid_ok hv).2.2.2
    obtain ⟨⟨g1, g2⟩, -, -⟩ := okF_bd gd
    have hw1 : RowKit.wrap64 (-d1) = -d1 := by unfold RowKit.wrap64; omega
    have hw2 : RowKit.wrap64 (-d2) = -d2 := by rw [hd0]; unfold RowKit.wrap64; omega
    rw [show smirrorF a1 a2 a3 b1 b2 b3 c1 c2 c3 d1 d2 d3 = quadO (some (a1, a2, a3)) (some (b1, b2, b3)) (some (c1, c2, c3)) (some (-d1, -d2, d3)) by unfold smirrorF; rw [hv, hd0]; rfl]
    rw [hv] at HC
    clear hv hd0
    have ma := Ma.out
    have na_w := Ma.lt
    have hmf : ∀ (fn : Fn) (first cap : Array Value) (w : World), (Instr.makeFunc fn first cap).run Tryd.prog w = .ok (.func fn first cap) w := fun _ _ _ _ => rfl
    go_enter Tryd.func71, Tryd.ntmps71
    go_wp2_with fail
    refine (HC.out _ (by repeat' (first | (with_reducible first | assumption | refine Mp.drew ?_ | refine Mp.drewN ?_ _ | refine Mp.set ?_ _ _ | (refine Mp.new ?_; focus (first | rfl | (simp; done)))) | (refine Mp.put (vs := []) ?_ rfl rfl) | (refine Mp.put (vs := [.agg #[.int .i64 a1, .int .i64 a2, .int .i64 a3]]) ?_ rfl rfl) | (refine Mp.put (vs := [.agg #[.int .i64 a1, .int .i64 a2, .int .i64 a3], .agg #[.int .i64 b1, .int .i64 b2, .int .i64 b3]]) ?_ rfl rfl) | (refine Mp.put (vs := [.agg #[.int .i64 a1, .int .i64 a2, .int .i64 a3], .agg #[.int .i64 b1, .int .i64 b2, .int .i64 b3], .agg #[.int .i64 c1, .int .i64 c2, .int .i64 c3]]) ?_ rfl rfl) | (with_reducible first | refine Mp.putOther ?_ ?_ _ _ | refine Mp.alloc ?_ _) | (refine neB ?_; omega)))).mono ?_
    rintro e W1 ⟨h1, -, hb⟩
    obtain rfl := h1 rfl
    clear h1
    have Bp : Blk W1 (w.heap.size) [.map (some B)] := Blk.keep hb (by repeat' (first | (with_reducible first | assumption | refine Blk.drew ?_ | refine Blk.drewN ?_ _ | refine Blk.mapPut ?_ _ _ | apply Blk.set | (refine Blk.new ?_; focus (first | rfl | (simp; done))) | refine Blk.alloc ?_ _ | refine Blk.other ?_ ?_ _) | exact eqL rfl | (refine neB ?_; omega)))
    have Ma : Mp W1 (B) [.agg #[.int .i64 a1, .int .i64 a2, .int .i64 a3], .agg #[.int .i64 b1, .int .i64 b2, .int .i64 b3], .agg #[.int .i64 c1, .int .i64 c2, .int .i64 c3], .agg #[.int .i64 d1, .int .i64 d2, .int .i64 d3]] := Mp.keep hb (by repeat' (first | (with_reducible first | assumption | refine Mp.drew ?_ | refine Mp.drewN ?_ _ | refine Mp.set ?_ _ _ | (refine Mp.new ?_; focus (first | rfl | (simp; done)))) | (refine Mp.put (vs := []) ?_ rfl rfl) | (refine Mp.put (vs := [.agg #[.int .i64 a1, .int .i64 a2, .int .i64 a3]]) ?_ rfl rfl) | (refine Mp.put (vs := [.agg #[.int .i64 a1, .int .i64 a2, .int .i64 a3], .agg #[.int .i64 b1, .int .i64 b2, .int .i64 b3]]) ?_ rfl rfl) | (refine Mp.put (vs := [.agg #[.int .i64 a1, .int .i64 a2, .int .i64 a3], .agg #[.int .i64 b1, .int .i64 b2, .int .i64 b3], .agg #[.int .i64 c1, .int .i64 c2, .int .i64 c3]]) ?_ rfl rfl) | (with_reducible first | refine Mp.putOther ?_ ?_ _ _ | refine Mp.alloc ?_ _) | (refine neB ?_; omega)))
    have cp := Bp.cell
    have fp := Bp.free
    have lp_W1 := Bp.lt
    have ma := Ma.out
    have na_W1 := Ma.lt
    have kaW1 : Acc w W1 := by
      refine Acc.call ?_ hb
      (repeat' (first | (with_reducible first | assumption | exact Acc.refl _ | refine Acc.drew ?_ | refine Acc.drewN ?_ _ | refine Acc.alloc ?_ _ | refine Acc.setCell ?_ ?_ _ | refine Acc.mapPut ?_ ?_ _ _) | (refine leB ?_; omega)))
    clear hb
    go_wp2_with fail
    refine (eachKind_mirror (.pointer (some ⟨w.heap.size, 0, none⟩)) _ _ _ _ _ (fun W k => nmirrorClo_0 _ B a1 a2 a3 b1 b2 b3 c1 c2 c3 d1 d2 d3  W (Blk.keep k (by repeat' (first | (with_reducible first | assumption | refine Blk.drew ?_ | refine Blk.drewN ?_ _ | refine Blk.mapPut ?_ _ _ | apply Blk.set | (refine Blk.new ?_; focus (first | rfl | (simp; done))) | refine Blk.alloc ?_ _ | refine Blk.other ?_ ?_ _) | exact eqL rfl | (refine neB ?_; omega)))) (Mp.keep k (by repeat' (first | (with_reducible first | assumption | refine Mp.drew ?_ | refine Mp.drewN ?_ _ | refine Mp.set ?_ _ _ | (refine Mp.new ?_; focus (first | rfl | (simp; done)))) | (refine Mp.put (vs := []) ?_ rfl rfl) | (refine Mp.put (vs := [.agg #[.int .i64 a1, .int .i64 a2, .int .i64 a3]]) ?_ rfl rfl) | (refine Mp.put (vs := [.agg #[.int .i64 a1, .int .i64 a2, .int .i64 a3], .agg #[.int .i64 b1, .int .i64 b2, .int .i64 b3]]) ?_ rfl rfl) | (refine Mp.put (vs := [.agg #[.int .i64 a1, .int .i64 a2, .int .i64 a3], .agg #[.int .i64 b1, .int .i64 b2, .int .i64 b3], .agg #[.int .i64 c1, .int .i64 c2, .int .i64 c3]]) ?_ rfl rfl) | (with_reducible first | refine Mp.putOther ?_ ?_ _ _ | refine Mp.alloc ?_ _) | (refine neB ?_; omega))))) (fun W k => nmirrorClo_1 _ B a1 a2 a3 b1 b2 b3 c1 c2 c3 d1 d2 d3  W (Blk.keep k (by repeat' (first | (with_reducible first | assumption | refine Blk.drew ?_ | refine Blk.drewN ?_ _ | refine Blk.mapPut ?_ _ _ | apply Blk.set | (refine Blk.new ?_; focus (first | rfl | (simp; done))) | refine Blk.alloc ?_ _ | refine Blk.other ?_ ?_ _) | exact eqL rfl | (refine neB ?_; omega)))) (Mp.keep k (by repeat' (first | (with_reducible first | assumption | refine Mp.drew ?_ | refine Mp.drewN ?_ _ | refine Mp.set ?_ _ _ | (refine Mp.new ?_; focus (first | rfl | (simp; done)))) | (refine Mp.put (vs := []) ?_ rfl rfl) | (refine Mp.put (vs := [.agg #[.int .i64 a1, .int .i64 a2, .int .i64 a3]]) ?_ rfl rfl) | (refine Mp.put (vs := [.agg #[.int .i64 a1, .int .i64 a2, .int .i64 a3], .agg #[.int .i64 b1, .int .i64 b2, .int .i64 b3]]) ?_ rfl rfl) | (refine Mp.put (vs := [.agg #[.int .i64 a1, .int .i64 a2, .int .i64 a3], .agg #[.int .i64 b1, .int .i64 b2, .int .i64 b3], .agg #[.int .i64 c1, .int .i64 c2, .int .i64 c3]]) ?_ rfl rfl) | (with_reducible first | refine Mp.putOther ?_ ?_ _ _ | refine Mp.alloc ?_ _) | (refine neB ?_; omega))))) (fun W k => nmirrorClo_2 _ B a1 a2 a3 b1 b2 b3 c1 c2 c3 d1 d2 d3  W (Blk.keep k (by repeat' (first | (with_reducible first | assumption | refine Blk.drew ?_ | refine Blk.drewN ?_ _ | refine Blk.mapPut ?_ _ _ | apply Blk.set | (refine Blk.new ?_; focus (first | rfl | (simp; done))) | refine Blk.alloc ?_ _ | refine Blk.other ?_ ?_ _) | exact eqL rfl | (refine neB ?_; omega)))) (Mp.keep k (by repeat' (first | (with_reducible first | assumption | refine Mp.drew ?_ | refine Mp.drewN ?_ _ | refine Mp.set ?_ _ _ | (refine Mp.new ?_; focus (first | rfl | (simp; done)))) | (refine Mp.put (vs := []) ?_ rfl rfl) | (refine Mp.put (vs := [.agg #[.int .i64 a1, .int .i64 a2, .int .i64 a3]]) ?_ rfl rfl) | (refine Mp.put (vs := [.agg #[.int .i64 a1, .int .i64 a2, .int .i64 a3], .agg #[.int .i64 b1, .int .i64 b2, .int .i64 b3]]) ?_ rfl rfl) | (refine Mp.put (vs := [.agg #[.int .i64 a1, .int .i64 a2, .int .i64 a3], .agg #[.int .i64 b1, .int .i64 b2, .int .i64 b3], .agg #[.int .i64 c1, .int .i64 c2, .int .i64 c3]]) ?_ rfl rfl) | (with_reducible first | refine Mp.putOther ?_ ?_ _ _ | refine Mp.alloc ?_ _) | (refine neB ?_; omega))))) (fun W k => nmirrorClo_3 _ B a1 a2 a3 b1 b2 b3 c1 c2 c3 d1 d2 d3 hw1 hw2 W (Blk.keep k (by repeat' (first | (with_reducible first | assumption | refine Blk.drew ?_ | refine Blk.drewN ?_ _ | refine Blk.mapPut ?_ _ _ | apply Blk.set | (refine Blk.new ?_; focus (first | rfl | (simp; done))) | refine Blk.alloc ?_ _ | refine Blk.other ?_ ?_ _) | exact eqL rfl | (refine neB ?_; omega)))) (Mp.keep k (by repeat' (first | (with_reducible first | assumption | refine Mp.drew ?_ | refine Mp.drewN ?_ _ | refine Mp.set ?_ _ _ | (refine Mp.new ?_; focus (first | rfl | (simp; done)))) | (refine Mp.put (vs := []) ?_ rfl rfl) | (refine Mp.put (vs := [.agg #[.int .i64 a1, .int .i64 a2, .int .i64 a3]]) ?_ rfl rfl) | (refine Mp.put (vs := [.agg #[.int .i64 a1, .int .i64 a2, .int .i64 a3], .agg #[.int .i64 b1, .int .i64 b2, .int .i64 b3]]) ?_ rfl rfl) | (refine Mp.put (vs := [.agg #[.int .i64 a1, .int .i64 a2, .int .i64 a3], .agg #[.int .i64 b1, .int .i64 b2, .int .i64 b3], .agg #[.int .i64 c1, .int .i64 c2, .int .i64 c3]]) ?_ rfl rfl) | (with_reducible first | refine Mp.putOther ?_ ?_ _ _ | refine Mp.alloc ?_ _) | (refine neB ?_; omega)))))).mono ?_
    rintro e W2 ⟨h1, h2, hb⟩
    have Bp : Blk W2 (w.heap.size) [.map (some B)] := Blk.keep hb (by repeat' (first | (with_reducible first | assumption | refine Blk.drew ?_ | refine Blk.drewN ?_ _ | refine Blk.mapPut ?_ _ _ | apply Blk.set | (refine Blk.new ?_; focus (first | rfl | (simp; done))) | refine Blk.alloc ?_ _ | refine Blk.other ?_ ?_ _) | exact eqL rfl | (refine neB ?_; omega)))
    have Ma : Mp W2 (B) [.agg #[.int .i64 a1, .int .i64 a2, .int .i64 a3], .agg #[.int .i64 b1, .int .i64 b2, .int .i64 b3], .agg #[.int .i64 c1, .int .i64 c2, .int .i64 c3], .agg #[.int .i64 d1, .int .i64 d2, .int .i64 d3]] := Mp.keep hb (by repeat' (first | (with_reducible first | assumption | refine Mp.drew ?_ | refine Mp.drewN ?_ _ | refine Mp.set ?_ _ _ | (refine Mp.new ?_; focus (first | rfl | (simp; done)))) | (refine Mp.put (vs := []) ?_ rfl rfl) | (refine Mp.put (vs := [.agg #[.int .i64 a1, .int .i64 a2, .int .i64 a3]]) ?_ rfl rfl) | (refine Mp.put (vs := [.agg #[.int .i64 a1, .int .i64 a2, .int .i64 a3], .agg #[.int .i64 b1, .int .i64 b2, .int .i64 b3]]) ?_ rfl rfl) | (refine Mp.put (vs := [.agg #[.int .i64 a1, .int .i64 a2, .int .i64 a3], .agg #[.int .i64 b1, .int .i64 b2, .int .i64 b3], .agg #[.int .i64 c1, .int .i64 c2, .int .i64 c3]]) ?_ rfl rfl) | (with_reducible first | refine Mp.putOther ?_ ?_ _ _ | refine Mp.alloc ?_ _) | (refine neB ?_; omega)))
    have cp := Bp.cell
    have fp := Bp.free
    have lp_W2 := Bp.lt
    have ma := Ma.out
    have na_W2 := Ma.lt
    have kaW2 : Acc w W2 := by
      refine Acc.call ?_ hb
      (repeat' (first | (with_reducible first | assumption | exact Acc.refl _ | refine Acc.drew ?_ | refine Acc.drewN ?_ _ | refine Acc.alloc ?_ _ | refine Acc.setCell ?_ ?_ _ | refine Acc.mapPut ?_ ?_ _ _) | (refine leB ?_; omega)))
    clear hb
    obtain ⟨D, hD, rfl, MD⟩ := h1 _ _ _ _ _ _ _ _ _ _ _ _ rfl
    clear h1 h2
    go_wp2_with fail
    go_ret2
    refine ⟨fun _ _ _ _ _ _ _ _ _ _ _ _ h => ⟨D, leB (by have := kaW2.size; have := MD.lt; omega), rfl, ?_⟩, fun h => (by cases h), ?_⟩
    · obtain ⟨⟩ := h
      exact MD
    show Acc w _
    (repeat' (first | (with_reducible first | assumption | exact Acc.refl _ | refine Acc.drew ?_ | refine Acc.drewN ?_ _ | refine Acc.alloc ?_ _ | refine Acc.setCell ?_ ?_ _ | refine Acc.mapPut ?_ ?_ _ _) | (refine leB ?_; omega)))
end Go.Proofs.YtedigdakgjaedabDoor
