/-
  The program's fractions: asked whether they are 0; their real parts.
-/
import Derived.Test.YtpgklllgmfaekaaGreatDoorEqVec
import Derived.Test.YtpgklllgmfaekaaGreatDoorBSpecF
import Derived.Test.YtpgklllgmfaekaaGreatDoorBImplF
namespace Go.Proofs.YtpgklllgmfaekaaGreatDoor
open Go.ChangeShapes Go.WideShapes Go.ChangeAt Go.RowKit
set_option linter.unusedVariables false

set_option linter.unusedVariables false

set_option maxHeartbeats 1000000 in
theorem isZ_of (x y z : Int) (k : Bool) (h : (x == 0 && y == 0 && z == 1) = k) (w : World) : Calls Tryz.prog 91 #[.agg #[.int .i64 x, .int .i64 y, .int .i64 z]] w fun e w' => e = .returned (.bool k) ∧ Below w.heap.size w w' := by
  have E := Lib.hid fun w => (eqFr 9998 x y z 0 0 1 w).trans (by rw [h])
  clear h
  have q := E.out
  go_enter Tryz.func91, Tryz.ntmps91
  go_wp2_with fail
  go_ret
  refine ⟨rfl, ?_⟩
  show Acc w _
  (repeat' (first | (with_reducible first | assumption | exact Acc.refl _ | refine Acc.drew ?_ | refine Acc.drewN ?_ _ | refine Acc.alloc ?_ _ | refine Acc.setCell ?_ ?_ _) | (refine leB ?_; omega)))
set_option maxHeartbeats 2000000 in
theorem mreal_any (x y z : Int) (hx : i64B x) (hy : i64B y) (hz : i64B z) (w : World) : Calls Tryz.prog 26 #[.agg #[.int .i64 x, .int .i64 y, .int .i64 z]] w (Erred (if okF x y z = true then lowE x 0 z else none) w) := by
  have HC := Lib.hid fun w => check_any x y z w hx hy hz
  have HL := Lib.hid fun w => lowest_any x 0 z w hx (by unfold i64B; omega) hz
  obtain ⟨k, hk⟩ : ∃ k, okF x y z = k := ⟨_, rfl⟩
  rw [hk] at HC ⊢
  obtain ⟨o, ho⟩ : ∃ o, lowE x 0 z = o := ⟨_, rfl⟩
  rw [ho] at HL ⊢
  clear hk ho
  obtain ⟨rr, hrr⟩ : ∃ r, (if k = true then o else none) = r := ⟨_, rfl⟩
  rw [hrr]
  have HRR := Lib.hid hrr
  clear hrr
  go_enter Tryz.func26, Tryz.ntmps26
  go_wp2_with fail
  refine (HC.out _).mono ?_
  rintro e W1 ⟨h1, h2, hb⟩
  have Ba : Blk W1 (w.heap.size) [.int .i64 x, .int .i64 y, .int .i64 z] := Blk.keep hb (by repeat' (first | (with_reducible first | assumption | refine Blk.drew ?_ | refine Blk.drewN ?_ _ | refine Blk.mapPut ?_ _ _ | apply Blk.set | (refine Blk.new ?_; focus (first | rfl | (simp; done))) | refine Blk.alloc ?_ _ | refine Blk.other ?_ ?_ _) | exact eqL rfl | (refine neB ?_; omega)))
  have Br : Blk W1 (w.heap.size + 1) [.int .i64 0, .int .i64 0, .int .i64 0] := Blk.keep hb (by repeat' (first | (with_reducible first | assumption | refine Blk.drew ?_ | refine Blk.drewN ?_ _ | refine Blk.mapPut ?_ _ _ | apply Blk.set | (refine Blk.new ?_; focus (first | rfl | (simp; done))) | refine Blk.alloc ?_ _ | refine Blk.other ?_ ?_ _) | exact eqL rfl | (refine neB ?_; omega)))
  have ca := Ba.cell
  have fa := Ba.free
  have la_W1 := Ba.lt
  have cr := Br.cell
  have fr := Br.free
  have lr_W1 := Br.lt
  have kaW1 : Acc w W1 := by
    refine Acc.call ?_ hb
    (repeat' (first | (with_reducible first | assumption | exact Acc.refl _ | refine Acc.drew ?_ | refine Acc.drewN ?_ _ | refine Acc.alloc ?_ _ | refine Acc.setCell ?_ ?_ _) | (refine leB ?_; omega)))
  clear hb
  cases k with
  | false =>
    obtain rfl : none = rr := HRR.out
    obtain ⟨s, rfl⟩ := h2 rfl
    clear h1 h2
    go_wp2_with fail
    refine bodyPost_ret (v := .tuple #[.agg #[.int .i64 0, .int .i64 0, .int .i64 0], .iface 65 (.agg #[.string s])]) (by simp [results, Tryz.results26, go_sem, *]) rfl ⟨fun _ _ _ h => (by simp at h), fun _ => ⟨_, rfl⟩, ?_⟩
    show Acc w _
    (repeat' (first | (with_reducible first | assumption | exact Acc.refl _ | refine Acc.drew ?_ | refine Acc.drewN ?_ _ | refine Acc.alloc ?_ _ | refine Acc.setCell ?_ ?_ _) | (refine leB ?_; omega)))
  | true =>
    obtain rfl : o = rr := HRR.out
    obtain rfl := h1 rfl
    clear h1 h2
    go_wp2_with fail
    refine (HL.out _).mono ?_
    rintro e W2 ⟨h1, h2, hb⟩
    have Ba : Blk W2 (w.heap.size) [.int .i64 x, .int .i64 y, .int .i64 z] := Blk.keep hb (by repeat' (first | (with_reducible first | assumption | refine Blk.drew ?_ | refine Blk.drewN ?_ _ | refine Blk.mapPut ?_ _ _ | apply Blk.set | (refine Blk.new ?_; focus (first | rfl | (simp; done))) | refine Blk.alloc ?_ _ | refine Blk.other ?_ ?_ _) | exact eqL rfl | (refine neB ?_; omega)))
    have Br : Blk W2 (w.heap.size + 1) [.int .i64 0, .int .i64 0, .int .i64 0] := Blk.keep hb (by repeat' (first | (with_reducible first | assumption | refine Blk.drew ?_ | refine Blk.drewN ?_ _ | refine Blk.mapPut ?_ _ _ | apply Blk.set | (refine Blk.new ?_; focus (first | rfl | (simp; done))) | refine Blk.alloc ?_ _ | refine Blk.other ?_ ?_ _) | exact eqL rfl | (refine neB ?_; omega)))
    have ca := Ba.cell
    have fa := Ba.free
    have la_W2 := Ba.lt
    have cr := Br.cell
    have fr := Br.free
    have lr_W2 := Br.lt
    have kaW2 : Acc w W2 := by
      refine Acc.call ?_ hb
      (repeat' (first | (with_reducible first | assumption | exact Acc.refl _ | refine Acc.drew ?_ | refine Acc.drewN ?_ _ | refine Acc.alloc ?_ _ | refine Acc.setCell ?_ ?_ _) | (refine leB ?_; omega)))
    clear hb
    cases o with
    | none =>
      obtain ⟨s, rfl⟩ := h2 rfl
      clear h1 h2
      go_wp2_with fail
      refine bodyPost_ret (v := .tuple #[.agg #[.int .i64 0, .int .i64 0, .int .i64 0], .iface 65 (.agg #[.string s])]) (by simp [results, Tryz.results26, go_sem, *]) rfl ⟨fun _ _ _ h => (by simp at h), fun _ => ⟨_, rfl⟩, ?_⟩
      show Acc w _
      (repeat' (first | (with_reducible first | assumption | exact Acc.refl _ | refine Acc.drew ?_ | refine Acc.drewN ?_ _ | refine Acc.alloc ?_ _ | refine Acc.setCell ?_ ?_ _) | (refine leB ?_; omega)))
    | some v =>
      obtain ⟨p, q, r⟩ := v
      obtain rfl := h1 _ _ _ rfl
      clear h1 h2
      go_wp2_with fail
      refine bodyPost_ret (v := .tuple #[.agg #[.int .i64 p, .int .i64 q, .int .i64 r], .nilIface]) (by simp [results, Tryz.results26, go_sem, *]) rfl ⟨fun _ _ _ h => (by simp at h; obtain ⟨rfl, rfl, rfl⟩ := h; rfl), fun h => (by simp at h), ?_⟩
      show Acc w _
      (repeat' (first | (with_reducible first | assumption | exact Acc.refl _ | refine Acc.drew ?_ | refine Acc.drewN ?_ _ | refine Acc.alloc ?_ _ | refine Acc.setCell ?_ ?_ _) | (refine leB ?_; omega)))
end Go.Proofs.YtpgklllgmfaekaaGreatDoor
