/-
  The draws of vectors and matrices.
-/
import Derived.Test.YtkdkeacfifjjoabGreatDoorBDrawF
import Derived.Test.YtkdkeacfifjjoabGreatDoorBMem
import Derived.Deep.RegionHeld3
import Derived.Test.YtkdkeacfifjjoabGreatDoorBLet
import Derived.Test.YtkdkeacfifjjoabGreatDoorSpecM6
namespace Go.Proofs.YtkdkeacfifjjoabGreatDoor
open Go.ChangeShapes Go.WideShapes Go.ChangeAt Go.RowKit
set_option linter.unusedVariables false

/-- A drawn vector: of ints of 64 bits. -/
def DrewJ (b p : Nat) (w : World) (e : Ending) (w' : World) : Prop :=
  ∃ (x1 x2 x3 y1 y2 y3 : Int) (q : Nat), e = .returned (.agg #[.int .i64 x1, .int .i64 x2, .int .i64 x3, .int .i64 y1, .int .i64 y2, .int .i64 y3]) ∧ i64B x1 ∧ i64B x2 ∧ i64B x3 ∧ i64B y1 ∧ i64B y2 ∧ i64B y3 ∧ q ≤ p + 11 ∧ Only b w w' ∧ Rd w' b q
set_option maxHeartbeats 4000000 in
theorem jones_any (b p : Nat) (w : World) (h : Rd w b p) (hp : p < 999900) :
    Calls Tryz.prog 45 #[.pointer (some ⟨b, 0, none⟩)] w (DrewJ b p w) := by
  have bw : b < w.heap.size := h.1
  have HR := Lib.hid fun W (k : Below (b + 1) w W) => h.keep k
  clear h
  go_enter Tryz.func45, Tryz.ntmps45
  go_wp2_with fail
  refine (frac_any b p _ (HR.out _ (by repeat' (first | (with_reducible first | assumption | exact Below.refl _ _ | refine Below.drew ?_ | refine below_alloc ?_ ?_ _ | refine below_set ?_ ?_ _) | (refine leB ?_; omega)))) (by omega)).mono ?_
  rintro e W1 ⟨x1, x2, x3, q, rfl, hd, ho, hq, hr⟩
  have Br : Blk W1 (w.heap.size) [.int .i64 0, .int .i64 0, .int .i64 0, .int .i64 0, .int .i64 0, .int .i64 0] := Blk.keepo ho (neB (by omega)) (by repeat' (first | (with_reducible first | assumption | refine Blk.drew ?_ | refine Blk.drewN ?_ _ | apply Blk.set | (refine Blk.new ?_; focus (first | rfl | (simp; done))) | refine Blk.alloc ?_ _ | refine Blk.other ?_ ?_ _) | exact eqL rfl | (refine neB ?_; omega)))
  have cr := Br.cell
  have fr := Br.free
  have lr_W1 := Br.lt
  have oaW1 : Only b w W1 := by
    refine Only.trans ?_ ho
    (repeat' (first | (with_reducible first | assumption | exact Only.refl _ _ | refine Only.drew ?_ | refine Only.alloc ?_ _ | refine Only.setCell ?_ ?_ _ | (refine Only.call ?_ ?_; rotate_left; assumption)) | (refine leB ?_; omega)))
  have lsW1 := oaW1.size
  have bwW1 : b < W1.heap.size := hr.1
  have HR := Lib.hid fun W (k : Below (b + 1) W1 W) => hr.keep k
  clear ho hr
  obtain ⟨hx1, hx2, hx3⟩ := drawn_i64 hd
  clear hd
  go_wp2_with fail
  refine (frac_any b q _ (HR.out _ (by repeat' (first | (with_reducible first | assumption | exact Below.refl _ _ | refine Below.drew ?_ | refine below_alloc ?_ ?_ _ | refine below_set ?_ ?_ _) | (refine leB ?_; omega)))) (by omega)).mono ?_
  rintro e W2 ⟨y1, y2, y3, q2, rfl, hd, ho, hq2, hr⟩
  have Br : Blk W2 (w.heap.size) [.int .i64 0, .int .i64 0, .int .i64 0, .int .i64 0, .int .i64 0, .int .i64 0] := Blk.keepo ho (neB (by omega)) (by repeat' (first | (with_reducible first | assumption | refine Blk.drew ?_ | refine Blk.drewN ?_ _ | apply Blk.set | (refine Blk.new ?_; focus (first | rfl | (simp; done))) | refine Blk.alloc ?_ _ | refine Blk.other ?_ ?_ _) | exact eqL rfl | (refine neB ?_; omega)))
  have Bx : Blk W2 (W1.heap.size) [.int .i64 x1, .int .i64 x2, .int .i64 x3] := Blk.keepo ho (neB (by omega)) (by repeat' (first | (with_reducible first | assumption | refine Blk.drew ?_ | refine Blk.drewN ?_ _ | apply Blk.set | (refine Blk.new ?_; focus (first | rfl | (simp; done))) | refine Blk.alloc ?_ _ | refine Blk.other ?_ ?_ _) | exact eqL rfl | (refine neB ?_; omega)))
  have cr := Br.cell
  have fr := Br.free
  have lr_W2 := Br.lt
  have cx := Bx.cell
  have fx := Bx.free
  have lx_W2 := Bx.lt
  have oaW2 : Only b w W2 := by
    refine Only.trans ?_ ho
    (repeat' (first | (with_reducible first | assumption | exact Only.refl _ _ | refine Only.drew ?_ | refine Only.alloc ?_ _ | refine Only.setCell ?_ ?_ _ | (refine Only.call ?_ ?_; rotate_left; assumption)) | (refine leB ?_; omega)))
  have lsW2 := oaW2.size
  have bwW2 : b < W2.heap.size := hr.1
  have HR := Lib.hid fun W (k : Below (b + 1) W2 W) => hr.keep k
  clear ho hr
  obtain ⟨hy1, hy2, hy3⟩ := drawn_i64 hd
  clear hd
  go_wp2_with fail
  refine (pick_any b q2 10 _ (HR.out _ (by repeat' (first | (with_reducible first | assumption | exact Below.refl _ _ | refine Below.drew ?_ | refine below_alloc ?_ ?_ _ | refine below_set ?_ ?_ _) | (refine leB ?_; omega)))) (by omega) (by omega) (by omega)).mono ?_
  rintro e W3 ⟨j, rfl, j0, j1, ho, hr⟩
  have Br : Blk W3 (w.heap.size) [.int .i64 0, .int .i64 0, .int .i64 0, .int .i64 0, .int .i64 0, .int .i64 0] := Blk.keepo ho (neB (by omega)) (by repeat' (first | (with_reducible first | assumption | refine Blk.drew ?_ | refine Blk.drewN ?_ _ | apply Blk.set | (refine Blk.new ?_; focus (first | rfl | (simp; done))) | refine Blk.alloc ?_ _ | refine Blk.other ?_ ?_ _) | exact eqL rfl | (refine neB ?_; omega)))
  have Bx : Blk W3 (W1.heap.size) [.int .i64 x1, .int .i64 x2, .int .i64 x3] := Blk.keepo ho (neB (by omega)) (by repeat' (first | (with_reducible first | assumption | refine Blk.drew ?_ | refine Blk.drewN ?_ _ | apply Blk.set | (refine Blk.new ?_; focus (first | rfl | (simp; done))) | refine Blk.alloc ?_ _ | refine Blk.other ?_ ?_ _) | exact eqL rfl | (refine neB ?_; omega)))
  have By : Blk W3 (W2.heap.size) [.int .i64 y1, .int .i64 y2, .int .i64 y3] := Blk.keepo ho (neB (by omega)) (by repeat' (first | (with_reducible first | assumption | refine Blk.drew ?_ | refine Blk.drewN ?_ _ | apply Blk.set | (refine Blk.new ?_; focus (first | rfl | (simp; done))) | refine Blk.alloc ?_ _ | refine Blk.other ?_ ?_ _) | exact eqL rfl | (refine neB ?_; omega)))
  have cr := Br.cell
  have fr := Br.free
  have lr_W3 := Br.lt
  have cx := Bx.cell
  have fx := Bx.free
  have lx_W3 := Bx.lt
  have cy := By.cell
  have fy := By.free
  have ly_W3 := By.lt
  have oaW3 : Only b w W3 := by
    refine Only.trans ?_ ho
    (repeat' (first | (with_reducible first | assumption | exact Only.refl _ _ | refine Only.drew ?_ | refine Only.alloc ?_ _ | refine Only.setCell ?_ ?_ _ | (refine Only.call ?_ ?_; rotate_left; assumption)) | (refine leB ?_; omega)))
  have lsW3 := oaW3.size
  have bwW3 : b < W3.heap.size := hr.1
  have HR := Lib.hid fun W (k : Below (b + 1) W3 W) => hr.keep k
  clear ho hr
  go_wp2_with fail
  · skip
    refine bodyPost_ret (v := .agg #[.int .i64 0, .int .i64 0, .int .i64 1, .int .i64 y1, .int .i64 y2, .int .i64 y3]) (by simp [results, Tryz.results45, go_sem, *]) rfl ⟨0, 0, 1, y1, y2, y3, q2 + 1, rfl, (by unfold i64B; omega), (by unfold i64B; omega), (by unfold i64B; omega), hy1, hy2, hy3, by omega, ?_, HR.out _ ?_⟩
    · (repeat' (first | (with_reducible first | assumption | exact Only.refl _ _ | refine Only.drew ?_ | refine Only.alloc ?_ _ | refine Only.setCell ?_ ?_ _ | (refine Only.call ?_ ?_; rotate_left; assumption)) | (refine leB ?_; omega)))
    · (repeat' (first | (with_reducible first | assumption | exact Below.refl _ _ | refine Below.drew ?_ | refine below_alloc ?_ ?_ _ | refine below_set ?_ ?_ _) | (refine leB ?_; omega)))
  · skip
    refine bodyPost_ret (v := .agg #[.int .i64 x1, .int .i64 x2, .int .i64 x3, .int .i64 0, .int .i64 0, .int .i64 1]) (by simp [results, Tryz.results45, go_sem, *]) rfl ⟨x1, x2, x3, 0, 0, 1, q2 + 1, rfl, hx1, hx2, hx3, (by unfold i64B; omega), (by unfold i64B; omega), (by unfold i64B; omega), by omega, ?_, HR.out _ ?_⟩
    · (repeat' (first | (with_reducible first | assumption | exact Only.refl _ _ | refine Only.drew ?_ | refine Only.alloc ?_ _ | refine Only.setCell ?_ ?_ _ | (refine Only.call ?_ ?_; rotate_left; assumption)) | (refine leB ?_; omega)))
    · (repeat' (first | (with_reducible first | assumption | exact Below.refl _ _ | refine Below.drew ?_ | refine below_alloc ?_ ?_ _ | refine below_set ?_ ?_ _) | (refine leB ?_; omega)))
  · skip
    refine bodyPost_ret (v := .agg #[.int .i64 x1, .int .i64 x2, .int .i64 x3, .int .i64 y1, .int .i64 y2, .int .i64 y3]) (by simp [results, Tryz.results45, go_sem, *]) rfl ⟨x1, x2, x3, y1, y2, y3, q2 + 1, rfl, hx1, hx2, hx3, hy1, hy2, hy3, by omega, ?_, HR.out _ ?_⟩
    · (repeat' (first | (with_reducible first | assumption | exact Only.refl _ _ | refine Only.drew ?_ | refine Only.alloc ?_ _ | refine Only.setCell ?_ ?_ _ | (refine Only.call ?_ ?_; rotate_left; assumption)) | (refine leB ?_; omega)))
    · (repeat' (first | (with_reducible first | assumption | exact Below.refl _ _ | refine Below.drew ?_ | refine below_alloc ?_ ?_ _ | refine below_set ?_ ?_ _) | (refine leB ?_; omega)))
/-- A drawn matrix: of ints of 64 bits. -/
def DrewM (b p : Nat) (w : World) (e : Ending) (w' : World) : Prop :=
  ∃ (x : F4) (q : Nat), e = .returned (.agg #[.int .i64 x.1.1, .int .i64 x.1.2.1, .int .i64 x.1.2.2, .int .i64 x.2.1.1, .int .i64 x.2.1.2.1, .int .i64 x.2.1.2.2, .int .i64 x.2.2.1.1, .int .i64 x.2.2.1.2.1, .int .i64 x.2.2.1.2.2, .int .i64 x.2.2.2.1, .int .i64 x.2.2.2.2.1, .int .i64 x.2.2.2.2.2]) ∧ i64M x ∧ q ≤ p + 26 ∧ Only b w w' ∧ Rd w' b q
theorem DrewM.mk {b p q : Nat} {w w' : World} {v : Value} (x : F4) (e : v = .agg #[.int .i64 x.1.1, .int .i64 x.1.2.1, .int .i64 x.1.2.2, .int .i64 x.2.1.1, .int .i64 x.2.1.2.1, .int .i64 x.2.1.2.2, .int .i64 x.2.2.1.1, .int .i64 x.2.2.1.2.1, .int .i64 x.2.2.1.2.2, .int .i64 x.2.2.2.1, .int .i64 x.2.2.2.2.1, .int .i64 x.2.2.2.2.2]) (h : i64M x) (hq : q ≤ p + 26) (ho : Only b w w') (hr : Rd w' b q) : DrewM b p w (.returned v) w' := ⟨x, q, by rw [e], h, hq, ho, hr⟩
end Go.Proofs.YtkdkeacfifjjoabGreatDoor
