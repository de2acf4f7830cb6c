/-
  The model: beats.
-/
import Derived.Test.YtkiggkmbgkonmabDoorSpecG1
import Derived.Test.YtkiggkmbgkonmabDoorBeatV
import Derived.Test.YtkiggkmbgkonmabDoorBLawS
import Derived.Test.YtkiggkmbgkonmabDoorBMath
namespace Go.Proofs.YtkiggkmbgkonmabDoor
open Go.ChangeShapes Go.WideShapes Go.ChangeAt Go.RowKit
set_option linter.unusedVariables false

set_option linter.unusedSimpArgs false
set_option maxHeartbeats 8000000 in
theorem specBeat_any (n1 n2 n3 q : Int) (hn1 : i64B n1) (hn2 : i64B n2) (hn3 : i64B n3) (hq : i64B q) (w : World) : Calls Tryd.prog 8 #[.agg #[.int .i64 n1, .int .i64 n2, .int .i64 n3, .int .i64 q]] w fun e w' => e = .returned (beatV n1 n2 n3 q) ∧ Below w.heap.size w w' := by
  have HV := Lib.hid fun (W : World) (g : Nat) (B : Blk W g [.int .i64 n1, .int .i64 n2, .int .i64 n3, .int .i64 q]) => specFbValid_any (some ⟨g, 0, none⟩) [((n1, n2, n3), q)] 1 W (lys_of_blk (ls := [((n1, n2, n3), q)]) (fun l hl => by rw [List.mem_singleton] at hl; subst hl; exact ⟨hn1, hn2, hn3, hq⟩) B) (Nat.le_of_ble_eq_true rfl)
  have HE : okFb [((n1, n2, n3), q)] = okS ((n1, n2, n3), q) := by unfold okFb; simp
  rw [HE] at HV
  clear HE hn1 hn2 hn3 hq
  unfold beatV
  cases ho : okS ((n1, n2, n3), q) with
  | false =>
    rw [ho] at HV
    clear ho
    go_enter Tryd.func8, Tryd.ntmps8
    go_wp2_with fail
    refine (HV.out _ _ (by repeat' (first | (with_reducible first | assumption | refine Blk.drew ?_ | refine Blk.drewN ?_ _ | apply Blk.set | (refine Blk.new ?_; focus (first | rfl | (simp; done))) | refine Blk.alloc ?_ _ | refine Blk.other ?_ ?_ _) | exact eqL rfl | (refine neB ?_; omega)))).mono ?_
    rintro e W1 ⟨rfl, hb⟩
    obtain ⟨Bs, Bl⟩ : Blk W1 (w.heap.size) [.int .i64 n1, .int .i64 n2, .int .i64 n3, .int .i64 q] ∧ Blk W1 (w.heap.size + 1) [.int .i64 n1, .int .i64 n2, .int .i64 n3, .int .i64 q] := by
      refine ⟨?_, ?_⟩ <;> refine Blk.keep hb ?_ <;> (repeat' (first | (with_reducible first | assumption | refine Blk.drew ?_ | refine Blk.drewN ?_ _ | apply Blk.set | (refine Blk.new ?_; focus (first | rfl | (simp; done))) | refine Blk.alloc ?_ _ | refine Blk.other ?_ ?_ _) | exact eqL rfl | (refine neB ?_; omega)))
    have cs := Bs.cell
    have fs := Bs.free
    have ls_W1 := Bs.lt
    have cl := Bl.cell
    have fl := Bl.free
    have ll_W1 := Bl.lt
    have kaW1 : Acc w W1 := by
      refine Acc.call ?_ hb
      (repeat' (first | (with_reducible first | assumption | exact Acc.refl _ | refine Acc.drew ?_ | refine Acc.drewN ?_ _ | refine Acc.alloc ?_ _ | refine Acc.setCell ?_ ?_ _) | (refine leB ?_; omega)))
    clear hb
    go_wp2_with fail
    refine bodyPost_ret (by conv => lhs; simp [results, Tryd.results8, go_sem, *]) rfl ⟨rfl, ?_⟩
    show Acc w _
    (repeat' (first | (with_reducible first | assumption | exact Acc.refl _ | refine Acc.drew ?_ | refine Acc.drewN ?_ _ | refine Acc.alloc ?_ _ | refine Acc.setCell ?_ ?_ _) | (refine leB ?_; omega)))
  | true =>
    rw [ho] at HV
    have hk := (okS_out ho).2.1
    clear ho
    rcases pha_in hk with rfl | rfl | rfl | rfl
    · skip
      have HG := Lib.hid fun w => specGcd_of 4 0 4 (by decide) (by omega) (by omega) w
      clear hk
      show Calls _ _ _ _ fun e w' => e = .returned (.tuple #[.int .i64 1, .bool true]) ∧ Below w.heap.size w w'
      go_enter Tryd.func8, Tryd.ntmps8
      go_wp2_with fail
      refine (HV.out _ _ (by repeat' (first | (with_reducible first | assumption | refine Blk.drew ?_ | refine Blk.drewN ?_ _ | apply Blk.set | (refine Blk.new ?_; focus (first | rfl | (simp; done))) | refine Blk.alloc ?_ _ | refine Blk.other ?_ ?_ _) | exact eqL rfl | (refine neB ?_; omega)))).mono ?_
      rintro e W1 ⟨rfl, hb⟩
      obtain ⟨Bs, Bl⟩ : Blk W1 (w.heap.size) [.int .i64 n1, .int .i64 n2, .int .i64 0, .int .i64 q] ∧ Blk W1 (w.heap.size + 1) [.int .i64 n1, .int .i64 n2, .int .i64 0, .int .i64 q] := by
        refine ⟨?_, ?_⟩ <;> refine Blk.keep hb ?_ <;> (repeat' (first | (with_reducible first | assumption | refine Blk.drew ?_ | refine Blk.drewN ?_ _ | apply Blk.set | (refine Blk.new ?_; focus (first | rfl | (simp; done))) | refine Blk.alloc ?_ _ | refine Blk.other ?_ ?_ _) | exact eqL rfl | (refine neB ?_; omega)))
      have cs := Bs.cell
      have fs := Bs.free
      have ls_W1 := Bs.lt
      have cl := Bl.cell
      have fl := Bl.free
      have ll_W1 := Bl.lt
      have kaW1 : Acc w W1 := by
        refine Acc.call ?_ hb
        (repeat' (first | (with_reducible first | assumption | exact Acc.refl _ | refine Acc.drew ?_ | refine Acc.drewN ?_ _ | refine Acc.alloc ?_ _ | refine Acc.setCell ?_ ?_ _) | (refine leB ?_; omega)))
      clear hb
      go_wp2_with fail
      refine (HG.out _).mono ?_
      rintro e wq ⟨rfl, rfl⟩
      go_wp2_with fail
      refine bodyPost_ret (by conv => lhs; simp [results, Tryd.results8, go_sem, *]) rfl ⟨rfl, ?_⟩
      show Acc w _
      (repeat' (first | (with_reducible first | assumption | exact Acc.refl _ | refine Acc.drew ?_ | refine Acc.drewN ?_ _ | refine Acc.alloc ?_ _ | refine Acc.setCell ?_ ?_ _) | (refine leB ?_; omega)))
    · skip
      have HG := Lib.hid fun w => specGcd_of 4 1 1 (by decide) (by omega) (by omega) w
      clear hk
      show Calls _ _ _ _ fun e w' => e = .returned (.tuple #[.int .i64 4, .bool true]) ∧ Below w.heap.size w w'
      go_enter Tryd.func8, Tryd.ntmps8
      go_wp2_with fail
      refine (HV.out _ _ (by repeat' (first | (with_reducible first | assumption | refine Blk.drew ?_ | refine Blk.drewN ?_ _ | apply Blk.set | (refine Blk.new ?_; focus (first | rfl | (simp; done))) | refine Blk.alloc ?_ _ | refine Blk.other ?_ ?_ _) | exact eqL rfl | (refine neB ?_; omega)))).mono ?_
      rintro e W1 ⟨rfl, hb⟩
      obtain ⟨Bs, Bl⟩ : Blk W1 (w.heap.size) [.int .i64 n1, .int .i64 n2, .int .i64 1, .int .i64 q] ∧ Blk W1 (w.heap.size + 1) [.int .i64 n1, .int .i64 n2, .int .i64 1, .int .i64 q] := by
        refine ⟨?_, ?_⟩ <;> refine Blk.keep hb ?_ <;> (repeat' (first | (with_reducible first | assumption | refine Blk.drew ?_ | refine Blk.drewN ?_ _ | apply Blk.set | (refine Blk.new ?_; focus (first | rfl | (simp; done))) | refine Blk.alloc ?_ _ | refine Blk.other ?_ ?_ _) | exact eqL rfl | (refine neB ?_; omega)))
      have cs := Bs.cell
      have fs := Bs.free
      have ls_W1 := Bs.lt
      have cl := Bl.cell
      have fl := Bl.free
      have ll_W1 := Bl.lt
      have kaW1 : Acc w W1 := by
        refine Acc.call ?_ hb
        (repeat' (first | (with_reducible first | assumption | exact Acc.refl _ | refine Acc.drew ?_ | refine Acc.drewN ?_ _ | refine Acc.alloc ?_ _ | refine Acc.setCell ?_ ?_ _) | (refine leB ?_; omega)))
      clear hb
      go_wp2_with fail
      refine (HG.out _).mono ?_
      rintro e wq ⟨rfl, rfl⟩
      go_wp2_with fail
      refine bodyPost_ret (by conv => lhs; simp [results, Tryd.results8, go_sem, *]) rfl ⟨rfl, ?_⟩
      show Acc w _
      (repeat' (first | (with_reducible first | assumption | exact Acc.refl _ | refine Acc.drew ?_ | refine Acc.drewN ?_ _ | refine Acc.alloc ?_ _ | refine Acc.setCell ?_ ?_ _) | (refine leB ?_; omega)))
    · skip
      have HG := Lib.hid fun w => specGcd_of 4 2 2 (by decide) (by omega) (by omega) w
      clear hk
      show Calls _ _ _ _ fun e w' => e = .returned (.tuple #[.int .i64 2, .bool true]) ∧ Below w.heap.size w w'
      go_enter Tryd.func8, Tryd.ntmps8
      go_wp2_with fail
      refine (HV.out _ _ (by repeat' (first | (with_reducible first | assumption | refine Blk.drew ?_ | refine Blk.drewN ?_ _ | apply Blk.set | (refine Blk.new ?_; focus (first | rfl | (simp; done))) | refine Blk.alloc ?_ _ | refine Blk.other ?_ ?_ _) | exact eqL rfl | (refine neB ?_; omega)))).mono ?_
      rintro e W1 ⟨rfl, hb⟩
      obtain ⟨Bs, Bl⟩ : Blk W1 (w.heap.size) [.int .i64 n1, .int .i64 n2, .int .i64 2, .int .i64 q] ∧ Blk W1 (w.heap.size + 1) [.int .i64 n1, .int .i64 n2, .int .i64 2, .int .i64 q] := by
        refine ⟨?_, ?_⟩ <;> refine Blk.keep hb ?_ <;> (repeat' (first | (with_reducible first | assumption | refine Blk.drew ?_ | refine Blk.drewN ?_ _ | apply Blk.set | (refine Blk.new ?_; focus (first | rfl | (simp; done))) | refine Blk.alloc ?_ _ | refine Blk.other ?_ ?_ _) | exact eqL rfl | (refine neB ?_; omega)))
      have cs := Bs.cell
      have fs := Bs.free
      have ls_W1 := Bs.lt
      have cl := Bl.cell
      have fl := Bl.free
      have ll_W1 := Bl.lt
      have kaW1 : Acc w W1 := by
        refine Acc.call ?_ hb
        (repeat' (first | (with_reducible first | assumption | exact Acc.refl _ | refine Acc.drew ?_ | refine Acc.drewN ?_ _ | refine Acc.alloc ?_ _ | refine Acc.setCell ?_ ?_ _) | (refine leB ?_; omega)))
      clear hb
      go_wp2_with fail
      refine (HG.out _).mono ?_
      rintro e wq ⟨rfl, rfl⟩
      go_wp2_with fail
      refine bodyPost_ret (by conv => lhs; simp [results, Tryd.results8, go_sem, *]) rfl ⟨rfl, ?_⟩
      show Acc w _
      (repeat' (first | (with_reducible first | assumption | exact Acc.refl _ | refine Acc.drew ?_ | refine Acc.drewN ?_ _ | refine Acc.alloc ?_ _ | refine Acc.setCell ?_ ?_ _) | (refine leB ?_; omega)))
    · skip
      have HG := Lib.hid fun w => specGcd_of 4 3 1 (by decide) (by omega) (by omega) w
      clear hk
      show Calls _ _ _ _ fun e w' => e = .returned (.tuple #[.int .i64 4, .bool true]) ∧ Below w.heap.size w w'
      go_enter Tryd.func8, Tryd.ntmps8
      go_wp2_with fail
      refine (HV.out _ _ (by repeat' (first | (with_reducible first | assumption | refine Blk.drew ?_ | refine Blk.drewN ?_ _ | apply Blk.set | (refine Blk.new ?_; focus (first | rfl | (simp; done))) | refine Blk.alloc ?_ _ | refine Blk.other ?_ ?_ _) | exact eqL rfl | (refine neB ?_; omega)))).mono ?_
      rintro e W1 ⟨rfl, hb⟩
      obtain ⟨Bs, Bl⟩ : Blk W1 (w.heap.size) [.int .i64 n1, .int .i64 n2, .int .i64 3, .int .i64 q] ∧ Blk W1 (w.heap.size + 1) [.int .i64 n1, .int .i64 n2, .int .i64 3, .int .i64 q] := by
        refine ⟨?_, ?_⟩ <;> refine Blk.keep hb ?_ <;> (repeat' (first | (with_reducible first | assumption | refine Blk.drew ?_ | refine Blk.drewN ?_ _ | apply Blk.set | (refine Blk.new ?_; focus (first | rfl | (simp; done))) | refine Blk.alloc ?_ _ | refine Blk.other ?_ ?_ _) | exact eqL rfl | (refine neB ?_; omega)))
      have cs := Bs.cell
      have fs := Bs.free
      have ls_W1 := Bs.lt
      have cl := Bl.cell
      have fl := Bl.free
      have ll_W1 := Bl.lt
      have kaW1 : Acc w W1 := by
        refine Acc.call ?_ hb
        (repeat' (first | (with_reducible first | assumption | exact Acc.refl _ | refine Acc.drew ?_ | refine Acc.drewN ?_ _ | refine Acc.alloc ?_ _ | refine Acc.setCell ?_ ?_ _) | (refine leB ?_; omega)))
      clear hb
      go_wp2_with fail
      refine (HG.out _).mono ?_
      rintro e wq ⟨rfl, rfl⟩
      go_wp2_with fail
      refine bodyPost_ret (by conv => lhs; simp [results, Tryd.results8, go_sem, *]) rfl ⟨rfl, ?_⟩
      show Acc w _
      (repeat' (first | (with_reducible first | assumption | exact Acc.refl _ | refine Acc.drew ?_ | refine Acc.drewN ?_ _ | refine Acc.alloc ?_ _ | refine Acc.setCell ?_ ?_ _) | (refine leB ?_; omega)))
end Go.Proofs.YtkiggkmbgkonmabDoor
