/-
  The draws of the laws of matrices.
-/
import Derived.Test.YtnfbopaafciiiabDoorDrawMat
import Derived.Deep.RegionHeld3
namespace Go.Proofs.YtnfbopaafciiiabDoor
open Go.ChangeShapes Go.WideShapes Go.ChangeAt Go.RowKit
set_option linter.unusedVariables false

/-- A drawn matrix. -/
def DrewM1 (w : World) (e : Ending) (w' : World) : Prop := ∃ x : F4, e = .returned (.agg #[.int .i64 x.1.1, .int .i64 x.1.2.1, .int .i64 x.1.2.2, .int .i64 x.2.1.1, .int .i64 x.2.1.2.1, .int .i64 x.2.1.2.2, .int .i64 x.2.2.1.1, .int .i64 x.2.2.1.2.1, .int .i64 x.2.2.1.2.2, .int .i64 x.2.2.2.1, .int .i64 x.2.2.2.2.1, .int .i64 x.2.2.2.2.2]) ∧ i64M x ∧ Below w.heap.size w w'
/-- Two drawn matrices. -/
def DrewMM (w : World) (e : Ending) (w' : World) : Prop := ∃ x y : F4, e = .returned (.tuple #[.agg #[.int .i64 x.1.1, .int .i64 x.1.2.1, .int .i64 x.1.2.2, .int .i64 x.2.1.1, .int .i64 x.2.1.2.1, .int .i64 x.2.1.2.2, .int .i64 x.2.2.1.1, .int .i64 x.2.2.1.2.1, .int .i64 x.2.2.1.2.2, .int .i64 x.2.2.2.1, .int .i64 x.2.2.2.2.1, .int .i64 x.2.2.2.2.2], .agg #[.int .i64 y.1.1, .int .i64 y.1.2.1, .int .i64 y.1.2.2, .int .i64 y.2.1.1, .int .i64 y.2.1.2.1, .int .i64 y.2.1.2.2, .int .i64 y.2.2.1.1, .int .i64 y.2.2.1.2.1, .int .i64 y.2.2.1.2.2, .int .i64 y.2.2.2.1, .int .i64 y.2.2.2.2.1, .int .i64 y.2.2.2.2.2]]) ∧ i64M x ∧ i64M y ∧ Below w.heap.size w w'
/-- A drawn matrix and a drawn vector. -/
def DrewMJ (w : World) (e : Ending) (w' : World) : Prop := ∃ (x : F4) (v : F3 × F3), e = .returned (.tuple #[.agg #[.int .i64 x.1.1, .int .i64 x.1.2.1, .int .i64 x.1.2.2, .int .i64 x.2.1.1, .int .i64 x.2.1.2.1, .int .i64 x.2.1.2.2, .int .i64 x.2.2.1.1, .int .i64 x.2.2.1.2.1, .int .i64 x.2.2.1.2.2, .int .i64 x.2.2.2.1, .int .i64 x.2.2.2.2.1, .int .i64 x.2.2.2.2.2], .agg #[.int .i64 v.1.1, .int .i64 v.1.2.1, .int .i64 v.1.2.2, .int .i64 v.2.1, .int .i64 v.2.2.1, .int .i64 v.2.2.2]]) ∧ i64M x ∧ i64J v ∧ Below w.heap.size w w'
/-- A drawn matrix and a drawn fraction. -/
def DrewMF (w : World) (e : Ending) (w' : World) : Prop := ∃ (x : F4) (c : F3), e = .returned (.tuple #[.agg #[.int .i64 x.1.1, .int .i64 x.1.2.1, .int .i64 x.1.2.2, .int .i64 x.2.1.1, .int .i64 x.2.1.2.1, .int .i64 x.2.1.2.2, .int .i64 x.2.2.1.1, .int .i64 x.2.2.1.2.1, .int .i64 x.2.2.1.2.2, .int .i64 x.2.2.2.1, .int .i64 x.2.2.2.2.1, .int .i64 x.2.2.2.2.2], .agg #[.int .i64 c.1, .int .i64 c.2.1, .int .i64 c.2.2]]) ∧ i64M x ∧ i64T c ∧ Below w.heap.size w w'
/-- A drawn direction. -/
def DrewPQ (w : World) (e : Ending) (w' : World) : Prop := ∃ p q : Int, e = .returned (.tuple #[.int .i64 p, .int .i64 q]) ∧ -3 ≤ p ∧ p ≤ 101 ∧ -3 ≤ q ∧ q ≤ 3 ∧ Below w.heap.size w w'
/-- A drawn direction and a drawn phase. -/
def DrewPQK (w : World) (e : Ending) (w' : World) : Prop := ∃ p q k : Int, e = .returned (.tuple #[.int .i64 p, .int .i64 q, .int .i64 k]) ∧ -3 ≤ p ∧ p ≤ 101 ∧ -3 ≤ q ∧ q ≤ 3 ∧ -1 ≤ k ∧ k ≤ 4 ∧ Below w.heap.size w w'
set_option maxHeartbeats 2000000 in
theorem drawMatAdjoint_any (a : Option Addr) (len cap : Nat) (w : World) (h : Code8 w a len cap) :
    Calls Tryd.prog 18 #[.slice a len cap] w (DrewM1 w) := by
  have H0 := Lib.hid (h.alloc (.cells #[.int .i64 0, .int .i64 0, .int .i64 0, .int .i64 0, .int .i64 0, .int .i64 0, .int .i64 0, .int .i64 0, .int .i64 0, .int .i64 0, .int .i64 0, .int .i64 0] 27))
  clear h
  go_enter Tryd.func18, Tryd.ntmps18
  go_wp2_with fail
  refine (open_any a len cap _ H0.out).mono ?_
  rintro e W1 ⟨b, rfl, hb1, bel, hr⟩
  have Br : Blk W1 (w.heap.size) [.int .i64 0, .int .i64 0, .int .i64 0, .int .i64 0, .int .i64 0, .int .i64 0, .int .i64 0, .int .i64 0, .int .i64 0, .int .i64 0, .int .i64 0, .int .i64 0] := Blk.keep bel (by repeat' (first | (with_reducible first | assumption | refine Blk.drew ?_ | refine Blk.drewN ?_ _ | apply Blk.set | (refine Blk.new ?_; focus (first | rfl | (simp; done))) | refine Blk.alloc ?_ _ | refine Blk.other ?_ ?_ _) | exact eqL rfl | (refine neB ?_; omega)))
  have cr := Br.cell
  have fr := Br.free
  have lr_W1 := Br.lt
  have kaW1 : Acc w W1 := by
    refine Acc.call ?_ bel
    (repeat' (first | (with_reducible first | assumption | exact Acc.refl _ | refine Acc.drew ?_ | refine Acc.drewN ?_ _ | refine Acc.alloc ?_ _ | refine Acc.setCell ?_ ?_ _) | (refine leB ?_; omega)))
  have lsW1 := kaW1.size
  have hb2 : w.heap.size < b := by
    simp at hb1
    omega
  have bwW1 := hr.1
  have HR := Lib.hid fun W (k : Below (b + 1) W1 W) => hr.keep k
  clear hb1 bel hr H0
  go_wp2_with fail
  refine (mat_any b 0 _ (HR.out _ (by repeat' (first | (with_reducible first | assumption | exact Below.refl _ _ | refine Below.drew ?_ | refine below_alloc ?_ ?_ _ | refine below_set ?_ ?_ _) | (refine leB ?_; omega)))) (by omega)).mono ?_
  rintro e W2 ⟨x, q, rfl, hx, hq, ho, hr⟩
  have Br : Blk W2 (w.heap.size) [.int .i64 0, .int .i64 0, .int .i64 0, .int .i64 0, .int .i64 0, .int .i64 0, .int .i64 0, .int .i64 0, .int .i64 0, .int .i64 0, .int .i64 0, .int .i64 0] := Blk.keepo ho (neB (by omega)) (by repeat' (first | (with_reducible first | assumption | refine Blk.drew ?_ | refine Blk.drewN ?_ _ | apply Blk.set | (refine Blk.new ?_; focus (first | rfl | (simp; done))) | refine Blk.alloc ?_ _ | refine Blk.other ?_ ?_ _) | exact eqL rfl | (refine neB ?_; omega)))
  have cr := Br.cell
  have fr := Br.free
  have lr_W2 := Br.lt
  have kaW2 : Acc w W2 := by
    refine Below.trans (b := _) ?_ (ho.below ?_ (by omega))
    · show Acc w _
      (repeat' (first | (with_reducible first | assumption | exact Acc.refl _ | refine Acc.drew ?_ | refine Acc.drewN ?_ _ | refine Acc.alloc ?_ _ | refine Acc.setCell ?_ ?_ _) | (refine leB ?_; omega)))
    · (refine Nat.le_trans ?_ (Nat.le_of_lt_succ (Nat.lt_succ_of_le (Nat.le_refl _))); (first | omega | (simp; omega)))
  have lsW2 := kaW2.size
  have bwW2 : b < W2.heap.size := hr.1
  have HR := Lib.hid fun W (k : Below (b + 1) W2 W) => hr.keep k
  clear ho hr
  go_wp2_with fail
  refine bodyPost_ret (v := .agg #[.int .i64 x.1.1, .int .i64 x.1.2.1, .int .i64 x.1.2.2, .int .i64 x.2.1.1, .int .i64 x.2.1.2.1, .int .i64 x.2.1.2.2, .int .i64 x.2.2.1.1, .int .i64 x.2.2.1.2.1, .int .i64 x.2.2.1.2.2, .int .i64 x.2.2.2.1, .int .i64 x.2.2.2.2.1, .int .i64 x.2.2.2.2.2]) (by simp [results, Tryd.results18, go_sem, *]) rfl ⟨x, rfl, hx, ?_⟩
  show Acc w _
  (repeat' (first | (with_reducible first | assumption | exact Acc.refl _ | refine Acc.drew ?_ | refine Acc.drewN ?_ _ | refine Acc.alloc ?_ _ | refine Acc.setCell ?_ ?_ _) | (refine leB ?_; omega)))
set_option maxHeartbeats 2000000 in
theorem drawMatDet_any (a : Option Addr) (len cap : Nat) (w : World) (h : Code8 w a len cap) :
    Calls Tryd.prog 21 #[.slice a len cap] w (DrewM1 w) := by
  have H0 := Lib.hid (h.alloc (.cells #[.int .i64 0, .int .i64 0, .int .i64 0, .int .i64 0, .int .i64 0, .int .i64 0, .int .i64 0, .int .i64 0, .int .i64 0, .int .i64 0, .int .i64 0, .int .i64 0] 27))
  clear h
  go_enter Tryd.func21, Tryd.ntmps21
  go_wp2_with fail
  refine (open_any a len cap _ H0.out).mono ?_
  rintro e W1 ⟨b, rfl, hb1, bel, hr⟩
  have Br : Blk W1 (w.heap.size) [.int .i64 0, .int .i64 0, .int .i64 0, .int .i64 0, .int .i64 0, .int .i64 0, .int .i64 0, .int .i64 0, .int .i64 0, .int .i64 0, .int .i64 0, .int .i64 0] := Blk.keep bel (by repeat' (first | (with_reducible first | assumption | refine Blk.drew ?_ | refine Blk.drewN ?_ _ | apply Blk.set | (refine Blk.new ?_; focus (first | rfl | (simp; done))) | refine Blk.alloc ?_ _ | refine Blk.other ?_ ?_ _) | exact eqL rfl | (refine neB ?_; omega)))
  have cr := Br.cell
  have fr := Br.free
  have lr_W1 := Br.lt
  have kaW1 : Acc w W1 := by
    refine Acc.call ?_ bel
    (repeat' (first | (with_reducible first | assumption | exact Acc.refl _ | refine Acc.drew ?_ | refine Acc.drewN ?_ _ | refine Acc.alloc ?_ _ | refine Acc.setCell ?_ ?_ _) | (refine leB ?_; omega)))
  have lsW1 := kaW1.size
  have hb2 : w.heap.size < b := by
    simp at hb1
    omega
  have bwW1 := hr.1
  have HR := Lib.hid fun W (k : Below (b + 1) W1 W) => hr.keep k
  clear hb1 bel hr H0
  go_wp2_with fail
  refine (mat_any b 0 _ (HR.out _ (by repeat' (first | (with_reducible first | assumption | exact Below.refl _ _ | refine Below.drew ?_ | refine below_alloc ?_ ?_ _ | refine below_set ?_ ?_ _) | (refine leB ?_; omega)))) (by omega)).mono ?_
  rintro e W2 ⟨x, q, rfl, hx, hq, ho, hr⟩
  have Br : Blk W2 (w.heap.size) [.int .i64 0, .int .i64 0, .int .i64 0, .int .i64 0, .int .i64 0, .int .i64 0, .int .i64 0, .int .i64 0, .int .i64 0, .int .i64 0, .int .i64 0, .int .i64 0] := Blk.keepo ho (neB (by omega)) (by repeat' (first | (with_reducible first | assumption | refine Blk.drew ?_ | refine Blk.drewN ?_ _ | apply Blk.set | (refine Blk.new ?_; focus (first | rfl | (simp; done))) | refine Blk.alloc ?_ _ | refine Blk.other ?_ ?_ _) | exact eqL rfl | (refine neB ?_; omega)))
  have cr := Br.cell
  have fr := Br.free
  have lr_W2 := Br.lt
  have kaW2 : Acc w W2 := by
    refine Below.trans (b := _) ?_ (ho.below ?_ (by omega))
    · show Acc w _
      (repeat' (first | (with_reducible first | assumption | exact Acc.refl _ | refine Acc.drew ?_ | refine Acc.drewN ?_ _ | refine Acc.alloc ?_ _ | refine Acc.setCell ?_ ?_ _) | (refine leB ?_; omega)))
    · (refine Nat.le_trans ?_ (Nat.le_of_lt_succ (Nat.lt_succ_of_le (Nat.le_refl _))); (first | omega | (simp; omega)))
  have lsW2 := kaW2.size
  have bwW2 : b < W2.heap.size := hr.1
  have HR := Lib.hid fun W (k : Below (b + 1) W2 W) => hr.keep k
  clear ho hr
  go_wp2_with fail
  refine bodyPost_ret (v := .agg #[.int .i64 x.1.1, .int .i64 x.1.2.1, .int .i64 x.1.2.2, .int .i64 x.2.1.1, .int .i64 x.2.1.2.1, .int .i64 x.2.1.2.2, .int .i64 x.2.2.1.1, .int .i64 x.2.2.1.2.1, .int .i64 x.2.2.1.2.2, .int .i64 x.2.2.2.1, .int .i64 x.2.2.2.2.1, .int .i64 x.2.2.2.2.2]) (by simp [results, Tryd.results21, go_sem, *]) rfl ⟨x, rfl, hx, ?_⟩
  show Acc w _
  (repeat' (first | (with_reducible first | assumption | exact Acc.refl _ | refine Acc.drew ?_ | refine Acc.drewN ?_ _ | refine Acc.alloc ?_ _ | refine Acc.setCell ?_ ?_ _) | (refine leB ?_; omega)))
set_option maxHeartbeats 2000000 in
theorem drawMatLossless_any (a : Option Addr) (len cap : Nat) (w : World) (h : Code8 w a len cap) :
    Calls Tryd.prog 25 #[.slice a len cap] w (DrewM1 w) := by
  have H0 := Lib.hid (h.alloc (.cells #[.int .i64 0, .int .i64 0, .int .i64 0, .int .i64 0, .int .i64 0, .int .i64 0, .int .i64 0, .int .i64 0, .int .i64 0, .int .i64 0, .int .i64 0, .int .i64 0] 27))
  clear h
  go_enter Tryd.func25, Tryd.ntmps25
  go_wp2_with fail
  refine (open_any a len cap _ H0.out).mono ?_
  rintro e W1 ⟨b, rfl, hb1, bel, hr⟩
  have Br : Blk W1 (w.heap.size) [.int .i64 0, .int .i64 0, .int .i64 0, .int .i64 0, .int .i64 0, .int .i64 0, .int .i64 0, .int .i64 0, .int .i64 0, .int .i64 0, .int .i64 0, .int .i64 0] := Blk.keep bel (by repeat' (first | (with_reducible first | assumption | refine Blk.drew ?_ | refine Blk.drewN ?_ _ | apply Blk.set | (refine Blk.new ?_; focus (first | rfl | (simp; done))) | refine Blk.alloc ?_ _ | refine Blk.other ?_ ?_ _) | exact eqL rfl | (refine neB ?_; omega)))
  have cr := Br.cell
  have fr := Br.free
  have lr_W1 := Br.lt
  have kaW1 : Acc w W1 := by
    refine Acc.call ?_ bel
    (repeat' (first | (with_reducible first | assumption | exact Acc.refl _ | refine Acc.drew ?_ | refine Acc.drewN ?_ _ | refine Acc.alloc ?_ _ | refine Acc.setCell ?_ ?_ _) | (refine leB ?_; omega)))
  have lsW1 := kaW1.size
  have hb2 : w.heap.size < b := by
    simp at hb1
    omega
  have bwW1 := hr.1
  have HR := Lib.hid fun W (k : Below (b + 1) W1 W) => hr.keep k
  clear hb1 bel hr H0
  go_wp2_with fail
  refine (mat_any b 0 _ (HR.out _ (by repeat' (first | (with_reducible first | assumption | exact Below.refl _ _ | refine Below.drew ?_ | refine below_alloc ?_ ?_ _ | refine below_set ?_ ?_ _) | (refine leB ?_; omega)))) (by omega)).mono ?_
  rintro e W2 ⟨x, q, rfl, hx, hq, ho, hr⟩
  have Br : Blk W2 (w.heap.size) [.int .i64 0, .int .i64 0, .int .i64 0, .int .i64 0, .int .i64 0, .int .i64 0, .int .i64 0, .int .i64 0, .int .i64 0, .int .i64 0, .int .i64 0, .int .i64 0] := Blk.keepo ho (neB (by omega)) (by repeat' (first | (with_reducible first | assumption | refine Blk.drew ?_ | refine Blk.drewN ?_ _ | apply Blk.set | (refine Blk.new ?_; focus (first | rfl | (simp; done))) | refine Blk.alloc ?_ _ | refine Blk.other ?_ ?_ _) | exact eqL rfl | (refine neB ?_; omega)))
  have cr := Br.cell
  have fr := Br.free
  have lr_W2 := Br.lt
  have kaW2 : Acc w W2 := by
    refine Below.trans (b := _) ?_ (ho.below ?_ (by omega))
    · show Acc w _
      (repeat' (first | (with_reducible first | assumption | exact Acc.refl _ | refine Acc.drew ?_ | refine Acc.drewN ?_ _ | refine Acc.alloc ?_ _ | refine Acc.setCell ?_ ?_ _) | (refine leB ?_; omega)))
    · (refine Nat.le_trans ?_ (Nat.le_of_lt_succ (Nat.lt_succ_of_le (Nat.le_refl _))); (first | omega | (simp; omega)))
  have lsW2 := kaW2.size
  have bwW2 : b < W2.heap.size := hr.1
  have HR := Lib.hid fun W (k : Below (b + 1) W2 W) => hr.keep k
  clear ho hr
  go_wp2_with fail
  refine bodyPost_ret (v := .agg #[.int .i64 x.1.1, .int .i64 x.1.2.1, .int .i64 x.1.2.2, .int .i64 x.2.1.1, .int .i64 x.2.1.2.1, .int .i64 x.2.1.2.2, .int .i64 x.2.2.1.1, .int .i64 x.2.2.1.2.1, .int .i64 x.2.2.1.2.2, .int .i64 x.2.2.2.1, .int .i64 x.2.2.2.2.1, .int .i64 x.2.2.2.2.2]) (by simp [results, Tryd.results25, go_sem, *]) rfl ⟨x, rfl, hx, ?_⟩
  show Acc w _
  (repeat' (first | (with_reducible first | assumption | exact Acc.refl _ | refine Acc.drew ?_ | refine Acc.drewN ?_ _ | refine Acc.alloc ?_ _ | refine Acc.setCell ?_ ?_ _) | (refine leB ?_; omega)))
set_option maxHeartbeats 2000000 in
theorem drawMatRotator_any (a : Option Addr) (len cap : Nat) (w : World) (h : Code8 w a len cap) :
    Calls Tryd.prog 33 #[.slice a len cap] w (DrewPQ w) := by
  have H0 := Lib.hid h
  clear h
  go_enter Tryd.func33, Tryd.ntmps33
  go_wp2_with fail
  refine (open_any a len cap _ H0.out).mono ?_
  rintro e W1 ⟨b, rfl, hb1, bel, hr⟩
  have kaW1 : Acc w W1 := by
    refine Acc.call ?_ bel
    (repeat' (first | (with_reducible first | assumption | exact Acc.refl _ | refine Acc.drew ?_ | refine Acc.drewN ?_ _ | refine Acc.alloc ?_ _ | refine Acc.setCell ?_ ?_ _) | (refine leB ?_; omega)))
  have lsW1 := kaW1.size
  have bwW1 := hr.1
  have HR := Lib.hid fun W (k : Below (b + 1) W1 W) => hr.keep k
  clear bel hr H0
  go_wp2_with fail
  refine (direction_any b 0 _ (HR.out _ (by repeat' (first | (with_reducible first | assumption | exact Below.refl _ _ | refine Below.drew ?_ | refine below_alloc ?_ ?_ _ | refine below_set ?_ ?_ _) | (refine leB ?_; omega)))) (by omega)).mono ?_
  rintro e W2 ⟨p, q, i, rfl, p0, p1, q0, q1, hq, ho, hr⟩
  have kaW2 : Acc w W2 := by
    refine Below.trans (b := _) ?_ (ho.below ?_ (by omega))
    · show Acc w _
      (repeat' (first | (with_reducible first | assumption | exact Acc.refl _ | refine Acc.drew ?_ | refine Acc.drewN ?_ _ | refine Acc.alloc ?_ _ | refine Acc.setCell ?_ ?_ _) | (refine leB ?_; omega)))
    · (refine Nat.le_trans ?_ (Nat.le_of_lt_succ (Nat.lt_succ_of_le (Nat.le_refl _))); (first | omega | (simp; omega)))
  have lsW2 := kaW2.size
  have bwW2 : b < W2.heap.size := hr.1
  have HR := Lib.hid fun W (k : Below (b + 1) W2 W) => hr.keep k
  clear ho hr
  go_wp2_with fail
  refine bodyPost_ret (v := .tuple #[.int .i64 p, .int .i64 q]) (by simp [results, Tryd.results33, go_sem, *]) rfl ⟨p, q, rfl, p0, p1, q0, q1, ?_⟩
  show Acc w _
  (repeat' (first | (with_reducible first | assumption | exact Acc.refl _ | refine Acc.drew ?_ | refine Acc.drewN ?_ _ | refine Acc.alloc ?_ _ | refine Acc.setCell ?_ ?_ _) | (refine leB ?_; omega)))
set_option maxHeartbeats 2000000 in
theorem drawMatFilter_any (a : Option Addr) (len cap : Nat) (w : World) (h : Code8 w a len cap) :
    Calls Tryd.prog 38 #[.slice a len cap] w (DrewPQ w) := by
  have H0 := Lib.hid h
  clear h
  go_enter Tryd.func38, Tryd.ntmps38
  go_wp2_with fail
  refine (open_any a len cap _ H0.out).mono ?_
  rintro e W1 ⟨b, rfl, hb1, bel, hr⟩
  have kaW1 : Acc w W1 := by
    refine Acc.call ?_ bel
    (repeat' (first | (with_reducible first | assumption | exact Acc.refl _ | refine Acc.drew ?_ | refine Acc.drewN ?_ _ | refine Acc.alloc ?_ _ | refine Acc.setCell ?_ ?_ _) | (refine leB ?_; omega)))
  have lsW1 := kaW1.size
  have bwW1 := hr.1
  have HR := Lib.hid fun W (k : Below (b + 1) W1 W) => hr.keep k
  clear bel hr H0
  go_wp2_with fail
  refine (direction_any b 0 _ (HR.out _ (by repeat' (first | (with_reducible first | assumption | exact Below.refl _ _ | refine Below.drew ?_ | refine below_alloc ?_ ?_ _ | refine below_set ?_ ?_ _) | (refine leB ?_; omega)))) (by omega)).mono ?_
  rintro e W2 ⟨p, q, i, rfl, p0, p1, q0, q1, hq, ho, hr⟩
  have kaW2 : Acc w W2 := by
    refine Below.trans (b := _) ?_ (ho.below ?_ (by omega))
    · show Acc w _
      (repeat' (first | (with_reducible first | assumption | exact Acc.refl _ | refine Acc.drew ?_ | refine Acc.drewN ?_ _ | refine Acc.alloc ?_ _ | refine Acc.setCell ?_ ?_ _) | (refine leB ?_; omega)))
    · (refine Nat.le_trans ?_ (Nat.le_of_lt_succ (Nat.lt_succ_of_le (Nat.le_refl _))); (first | omega | (simp; omega)))
  have lsW2 := kaW2.size
  have bwW2 : b < W2.heap.size := hr.1
  have HR := Lib.hid fun W (k : Below (b + 1) W2 W) => hr.keep k
  clear ho hr
  go_wp2_with fail
  refine bodyPost_ret (v := .tuple #[.int .i64 p, .int .i64 q]) (by simp [results, Tryd.results38, go_sem, *]) rfl ⟨p, q, rfl, p0, p1, q0, q1, ?_⟩
  show Acc w _
  (repeat' (first | (with_reducible first | assumption | exact Acc.refl _ | refine Acc.drew ?_ | refine Acc.drewN ?_ _ | refine Acc.alloc ?_ _ | refine Acc.setCell ?_ ?_ _) | (refine leB ?_; omega)))
set_option maxHeartbeats 4000000 in
theorem drawMatPlate_any (a : Option Addr) (len cap : Nat) (w : World) (h : Code8 w a len cap) :
    Calls Tryd.prog 35 #[.slice a len cap] w (DrewPQK w) := by
  have H0 := Lib.hid h
  clear h
  go_enter Tryd.func35, Tryd.ntmps35
  go_wp2_with fail
  refine (open_any a len cap _ H0.out).mono ?_
  rintro e W1 ⟨b, rfl, hb1, bel, hr⟩
  have kaW1 : Acc w W1 := by
    refine Acc.call ?_ bel
    (repeat' (first | (with_reducible first | assumption | exact Acc.refl _ | refine Acc.drew ?_ | refine Acc.drewN ?_ _ | refine Acc.alloc ?_ _ | refine Acc.setCell ?_ ?_ _) | (refine leB ?_; omega)))
  have lsW1 := kaW1.size
  have bwW1 := hr.1
  have HR := Lib.hid fun W (k : Below (b + 1) W1 W) => hr.keep k
  clear bel hr H0
  go_wp2_with fail
  refine (direction_any b 0 _ (HR.out _ (by repeat' (first | (with_reducible first | assumption | exact Below.refl _ _ | refine Below.drew ?_ | refine below_alloc ?_ ?_ _ | refine below_set ?_ ?_ _) | (refine leB ?_; omega)))) (by omega)).mono ?_
  rintro e W2 ⟨p, q, i, rfl, p0, p1, q0, q1, hq, ho, hr⟩
  have kaW2 : Acc w W2 := by
    refine Below.trans (b := _) ?_ (ho.below ?_ (by omega))
    · show Acc w _
      (repeat' (first | (with_reducible first | assumption | exact Acc.refl _ | refine Acc.drew ?_ | refine Acc.drewN ?_ _ | refine Acc.alloc ?_ _ | refine Acc.setCell ?_ ?_ _) | (refine leB ?_; omega)))
    · (refine Nat.le_trans ?_ (Nat.le_of_lt_succ (Nat.lt_succ_of_le (Nat.le_refl _))); (first | omega | (simp; omega)))
  have lsW2 := kaW2.size
  have bwW2 : b < W2.heap.size := hr.1
  have HR := Lib.hid fun W (k : Below (b + 1) W2 W) => hr.keep k
  clear ho hr
  go_wp2_with fail
  refine (pick_any b i 5 _ (HR.out _ (by repeat' (first | (with_reducible first | assumption | exact Below.refl _ _ | refine Below.drew ?_ | refine below_alloc ?_ ?_ _ | refine below_set ?_ ?_ _) | (refine leB ?_; omega)))) (by omega) (by omega) (by omega)).mono ?_
  rintro e W3 ⟨m, rfl, m0, m1, ho, hr⟩
  have kaW3 : Acc w W3 := by
    refine Below.trans (b := _) ?_ (ho.below ?_ (by omega))
    · show Acc w _
      (repeat' (first | (with_reducible first | assumption | exact Acc.refl _ | refine Acc.drew ?_ | refine Acc.drewN ?_ _ | refine Acc.alloc ?_ _ | refine Acc.setCell ?_ ?_ _) | (refine leB ?_; omega)))
    · (refine Nat.le_trans ?_ (Nat.le_of_lt_succ (Nat.lt_succ_of_le (Nat.le_refl _))); (first | omega | (simp; omega)))
  have lsW3 := kaW3.size
  have bwW3 : b < W3.heap.size := hr.1
  have HR := Lib.hid fun W (k : Below (b + 1) W3 W) => hr.keep k
  clear ho hr
  go_wp2_with fail
  refine (pick_any b (i + 1) 20 _ (HR.out _ (by repeat' (first | (with_reducible first | assumption | exact Below.refl _ _ | refine Below.drew ?_ | refine below_alloc ?_ ?_ _ | refine below_set ?_ ?_ _) | (refine leB ?_; omega)))) (by omega) (by omega) (by omega)).mono ?_
  rintro e W4 ⟨n, rfl, n0, n1, ho, hr⟩
  have kaW4 : Acc w W4 := by
    refine Below.trans (b := _) ?_ (ho.below ?_ (by omega))
    · show Acc w _
      (repeat' (first | (with_reducible first | assumption | exact Acc.refl _ | refine Acc.drew ?_ | refine Acc.drewN ?_ _ | refine Acc.alloc ?_ _ | refine Acc.setCell ?_ ?_ _) | (refine leB ?_; omega)))
    · (refine Nat.le_trans ?_ (Nat.le_of_lt_succ (Nat.lt_succ_of_le (Nat.le_refl _))); (first | omega | (simp; omega)))
  have lsW4 := kaW4.size
  have bwW4 : b < W4.heap.size := hr.1
  have HR := Lib.hid fun W (k : Below (b + 1) W4 W) => hr.keep k
  clear ho hr
  go_wp2_with fail
  refine bodyPost_ret (v := .tuple #[.int .i64 p, .int .i64 q, .int .i64 (m - n / 19)]) (by simp [results, Tryd.results35, go_sem, *]) rfl ⟨p, q, m - n / 19, rfl, p0, p1, q0, q1, by omega, by omega, ?_⟩
  show Acc w _
  (repeat' (first | (with_reducible first | assumption | exact Acc.refl _ | refine Acc.drew ?_ | refine Acc.drewN ?_ _ | refine Acc.alloc ?_ _ | refine Acc.setCell ?_ ?_ _) | (refine leB ?_; omega)))
set_option maxHeartbeats 8000000 in
theorem mats_any (a : Option Addr) (len cap : Nat) (w : World) (h : Code8 w a len cap) :
    Calls Tryd.prog 44 #[.slice a len cap] w (DrewMM w) := by
  have H0 := Lib.hid ((h.alloc (.cells #[.int .i64 0, .int .i64 0, .int .i64 0, .int .i64 0, .int .i64 0, .int .i64 0, .int .i64 0, .int .i64 0, .int .i64 0, .int .i64 0, .int .i64 0, .int .i64 0] 27)).alloc (.cells #[.int .i64 0, .int .i64 0, .int .i64 0, .int .i64 0, .int .i64 0, .int .i64 0, .int .i64 0, .int .i64 0, .int .i64 0, .int .i64 0, .int .i64 0, .int .i64 0] 27))
  clear h
  go_enter Tryd.func44, Tryd.ntmps44
  go_wp2_with fail
  refine (open_any a len cap _ H0.out).mono ?_
  rintro e W1 ⟨b, rfl, hb1, bel, hr⟩
  have Br : Blk W1 (w.heap.size) [.int .i64 0, .int .i64 0, .int .i64 0, .int .i64 0, .int .i64 0, .int .i64 0, .int .i64 0, .int .i64 0, .int .i64 0, .int .i64 0, .int .i64 0, .int .i64 0] := Blk.keep bel (by repeat' (first | (with_reducible first | assumption | refine Blk.drew ?_ | refine Blk.drewN ?_ _ | apply Blk.set | (refine Blk.new ?_; focus (first | rfl | (simp; done))) | refine Blk.alloc ?_ _ | refine Blk.other ?_ ?_ _) | exact eqL rfl | (refine neB ?_; omega)))
  have Bs : Blk W1 (w.heap.size + 1) [.int .i64 0, .int .i64 0, .int .i64 0, .int .i64 0, .int .i64 0, .int .i64 0, .int .i64 0, .int .i64 0, .int .i64 0, .int .i64 0, .int .i64 0, .int .i64 0] := Blk.keep bel (by repeat' (first | (with_reducible first | assumption | refine Blk.drew ?_ | refine Blk.drewN ?_ _ | apply Blk.set | (refine Blk.new ?_; focus (first | rfl | (simp; done))) | refine Blk.alloc ?_ _ | refine Blk.other ?_ ?_ _) | exact eqL rfl | (refine neB ?_; omega)))
  have cr := Br.cell
  have fr := Br.free
  have lr_W1 := Br.lt
  have cs := Bs.cell
  have fs := Bs.free
  have ls_W1 := Bs.lt
  have kaW1 : Acc w W1 := by
    refine Acc.call ?_ bel
    (repeat' (first | (with_reducible first | assumption | exact Acc.refl _ | refine Acc.drew ?_ | refine Acc.drewN ?_ _ | refine Acc.alloc ?_ _ | refine Acc.setCell ?_ ?_ _) | (refine leB ?_; omega)))
  have lsW1 := kaW1.size
  have hb2 : w.heap.size + 1 < b := by
    simp at hb1
    omega
  have bwW1 := hr.1
  have HR := Lib.hid fun W (k : Below (b + 1) W1 W) => hr.keep k
  clear hb1 bel hr H0
  go_wp2_with fail
  refine (mat_any b 0 _ (HR.out _ (by repeat' (first | (with_reducible first | assumption | exact Below.refl _ _ | refine Below.drew ?_ | refine below_alloc ?_ ?_ _ | refine below_set ?_ ?_ _) | (refine leB ?_; omega)))) (by omega)).mono ?_
  rintro e W2 ⟨x, q, rfl, hx, hq, ho, hr⟩
  have Br : Blk W2 (w.heap.size) [.int .i64 0, .int .i64 0, .int .i64 0, .int .i64 0, .int .i64 0, .int .i64 0, .int .i64 0, .int .i64 0, .int .i64 0, .int .i64 0, .int .i64 0, .int .i64 0] := Blk.keepo ho (neB (by omega)) (by repeat' (first | (with_reducible first | assumption | refine Blk.drew ?_ | refine Blk.drewN ?_ _ | apply Blk.set | (refine Blk.new ?_; focus (first | rfl | (simp; done))) | refine Blk.alloc ?_ _ | refine Blk.other ?_ ?_ _) | exact eqL rfl | (refine neB ?_; omega)))
  have Bs : Blk W2 (w.heap.size + 1) [.int .i64 0, .int .i64 0, .int .i64 0, .int .i64 0, .int .i64 0, .int .i64 0, .int .i64 0, .int .i64 0, .int .i64 0, .int .i64 0, .int .i64 0, .int .i64 0] := Blk.keepo ho (neB (by omega)) (by repeat' (first | (with_reducible first | assumption | refine Blk.drew ?_ | refine Blk.drewN ?_ _ | apply Blk.set | (refine Blk.new ?_; focus (first | rfl | (simp; done))) | refine Blk.alloc ?_ _ | refine Blk.other ?_ ?_ _) | exact eqL rfl | (refine neB ?_; omega)))
  have cr := Br.cell
  have fr := Br.free
  have lr_W2 := Br.lt
  have cs := Bs.cell
  have fs := Bs.free
  have ls_W2 := Bs.lt
  have kaW2 : Acc w W2 := by
    refine Below.trans (b := _) ?_ (ho.below ?_ (by omega))
    · show Acc w _
      (repeat' (first | (with_reducible first | assumption | exact Acc.refl _ | refine Acc.drew ?_ | refine Acc.drewN ?_ _ | refine Acc.alloc ?_ _ | refine Acc.setCell ?_ ?_ _) | (refine leB ?_; omega)))
    · (refine Nat.le_trans ?_ (Nat.le_of_lt_succ (Nat.lt_succ_of_le (Nat.le_refl _))); (first | omega | (simp; omega)))
  have lsW2 := kaW2.size
  have bwW2 : b < W2.heap.size := hr.1
  have HR := Lib.hid fun W (k : Below (b + 1) W2 W) => hr.keep k
  clear ho hr
  go_upto_region 3 with fail
  go_region_held3 (fun w' => (∀ k, w'.cell? ⟨W2.heap.size, k, none⟩ = [.int .i64 x.1.1, .int .i64 x.1.2.1, .int .i64 x.1.2.2, .int .i64 x.2.1.1, .int .i64 x.2.1.2.1, .int .i64 x.2.1.2.2, .int .i64 x.2.2.1.1, .int .i64 x.2.2.1.2.1, .int .i64 x.2.2.1.2.2, .int .i64 x.2.2.2.1, .int .i64 x.2.2.2.2.1, .int .i64 x.2.2.2.2.2][k]?))
    (((try dsimp only); (refine Blk.cell ?_ <;> (repeat' (first | (with_reducible first | assumption | refine Blk.drew ?_ | refine Blk.drewN ?_ _ | apply Blk.set | (refine Blk.new ?_; focus (first | rfl | (simp; done))) | refine Blk.alloc ?_ _ | refine Blk.other ?_ ?_ _) | exact eqL rfl | (refine neB ?_; omega))))))
    (first
      | (go_at_call 55; refine (mat_any b q _ (HR.out _ (by repeat' (first | (with_reducible first | assumption | exact Below.refl _ _ | refine Below.drew ?_ | refine below_alloc ?_ ?_ _ | refine below_set ?_ ?_ _) | (refine leB ?_; omega)))) (by omega)).mono ?_; rintro e W3 ⟨y, q2, rfl, hy, hq2, ho, hr⟩; have Br : Blk W3 (w.heap.size) [.int .i64 0, .int .i64 0, .int .i64 0, .int .i64 0, .int .i64 0, .int .i64 0, .int .i64 0, .int .i64 0, .int .i64 0, .int .i64 0, .int .i64 0, .int .i64 0] := Blk.keepo ho (neB (by omega)) (by repeat' (first | (with_reducible first | assumption | refine Blk.drew ?_ | refine Blk.drewN ?_ _ | apply Blk.set | (refine Blk.new ?_; focus (first | rfl | (simp; done))) | refine Blk.alloc ?_ _ | refine Blk.other ?_ ?_ _) | exact eqL rfl | (refine neB ?_; omega))); have Bs : Blk W3 (w.heap.size + 1) [.int .i64 0, .int .i64 0, .int .i64 0, .int .i64 0, .int .i64 0, .int .i64 0, .int .i64 0, .int .i64 0, .int .i64 0, .int .i64 0, .int .i64 0, .int .i64 0] := Blk.keepo ho (neB (by omega)) (by repeat' (first | (with_reducible first | assumption | refine Blk.drew ?_ | refine Blk.drewN ?_ _ | apply Blk.set | (refine Blk.new ?_; focus (first | rfl | (simp; done))) | refine Blk.alloc ?_ _ | refine Blk.other ?_ ?_ _) | exact eqL rfl | (refine neB ?_; omega))); have Ba : Blk W3 (W2.heap.size) [.int .i64 x.1.1, .int .i64 x.1.2.1, .int .i64 x.1.2.2, .int .i64 x.2.1.1, .int .i64 x.2.1.2.1, .int .i64 x.2.1.2.2, .int .i64 x.2.2.1.1, .int .i64 x.2.2.1.2.1, .int .i64 x.2.2.1.2.2, .int .i64 x.2.2.2.1, .int .i64 x.2.2.2.2.1, .int .i64 x.2.2.2.2.2] := Blk.keepo ho (neB (by omega)) (by repeat' (first | (with_reducible first | assumption | refine Blk.drew ?_ | refine Blk.drewN ?_ _ | apply Blk.set | (refine Blk.new ?_; focus (first | rfl | (simp; done))) | refine Blk.alloc ?_ _ | refine Blk.other ?_ ?_ _) | exact eqL rfl | (refine neB ?_; omega))); have cr := Br.cell; have fr := Br.free; have lr_W3 := Br.lt; have cs := Bs.cell; have fs := Bs.free; have ls_W3 := Bs.lt; have ca := Ba.cell; have fa := Ba.free; have la_W3 := Ba.lt; have kzW3 : Acc w W3 := (by refine Below.trans (b := _) ?_ (ho.below ?_ (by omega)); (focus (show Acc w _; (repeat' (first | (with_reducible first | assumption | exact Acc.refl _ | refine Acc.drew ?_ | refine Acc.drewN ?_ _ | refine Acc.alloc ?_ _ | refine Acc.setCell ?_ ?_ _) | (refine leB ?_; omega))))); (focus (first | omega | (simp; omega)))); clear ho hr))
  all_goals
    go_wp2_with fail
    refine bodyPost_ret (v := .tuple #[.agg #[.int .i64 x.1.1, .int .i64 x.1.2.1, .int .i64 x.1.2.2, .int .i64 x.2.1.1, .int .i64 x.2.1.2.1, .int .i64 x.2.1.2.2, .int .i64 x.2.2.1.1, .int .i64 x.2.2.1.2.1, .int .i64 x.2.2.1.2.2, .int .i64 x.2.2.2.1, .int .i64 x.2.2.2.2.1, .int .i64 x.2.2.2.2.2], .agg #[.int .i64 y.1.1, .int .i64 y.1.2.1, .int .i64 y.1.2.2, .int .i64 y.2.1.1, .int .i64 y.2.1.2.1, .int .i64 y.2.1.2.2, .int .i64 y.2.2.1.1, .int .i64 y.2.2.1.2.1, .int .i64 y.2.2.1.2.2, .int .i64 y.2.2.2.1, .int .i64 y.2.2.2.2.1, .int .i64 y.2.2.2.2.2]]) (by simp [results, Tryd.results44, go_sem, *]) rfl ⟨x, y, rfl, hx, hy, ?_⟩
    show Acc w _
    (repeat' (first | (with_reducible first | assumption | exact Acc.refl _ | refine Acc.drew ?_ | refine Acc.drewN ?_ _ | refine Acc.alloc ?_ _ | refine Acc.setCell ?_ ?_ _) | (refine leB ?_; omega)))
set_option maxHeartbeats 8000000 in
theorem drawMatScale_any (a : Option Addr) (len cap : Nat) (w : World) (h : Code8 w a len cap) :
    Calls Tryd.prog 41 #[.slice a len cap] w (DrewMF w) := by
  have H0 := Lib.hid ((h.alloc (.cells #[.int .i64 0, .int .i64 0, .int .i64 0, .int .i64 0, .int .i64 0, .int .i64 0, .int .i64 0, .int .i64 0, .int .i64 0, .int .i64 0, .int .i64 0, .int .i64 0] 27)).alloc (.cells #[.int .i64 0, .int .i64 0, .int .i64 0] 24))
  clear h
  go_enter Tryd.func41, Tryd.ntmps41
  go_wp2_with fail
  refine (open_any a len cap _ H0.out).mono ?_
  rintro e W1 ⟨b, rfl, hb1, bel, hr⟩
  have Br : Blk W1 (w.heap.size) [.int .i64 0, .int .i64 0, .int .i64 0, .int .i64 0, .int .i64 0, .int .i64 0, .int .i64 0, .int .i64 0, .int .i64 0, .int .i64 0, .int .i64 0, .int .i64 0] := Blk.keep bel (by repeat' (first | (with_reducible first | assumption | refine Blk.drew ?_ | refine Blk.drewN ?_ _ | apply Blk.set | (refine Blk.new ?_; focus (first | rfl | (simp; done))) | refine Blk.alloc ?_ _ | refine Blk.other ?_ ?_ _) | exact eqL rfl | (refine neB ?_; omega)))
  have Bs : Blk W1 (w.heap.size + 1) [.int .i64 0, .int .i64 0, .int .i64 0] := Blk.keep bel (by repeat' (first | (with_reducible first | assumption | refine Blk.drew ?_ | refine Blk.drewN ?_ _ | apply Blk.set | (refine Blk.new ?_; focus (first | rfl | (simp; done))) | refine Blk.alloc ?_ _ | refine Blk.other ?_ ?_ _) | exact eqL rfl | (refine neB ?_; omega)))
  have cr := Br.cell
  have fr := Br.free
  have lr_W1 := Br.lt
  have cs := Bs.cell
  have fs := Bs.free
  have ls_W1 := Bs.lt
  have kaW1 : Acc w W1 := by
    refine Acc.call ?_ bel
    (repeat' (first | (with_reducible first | assumption | exact Acc.refl _ | refine Acc.drew ?_ | refine Acc.drewN ?_ _ | refine Acc.alloc ?_ _ | refine Acc.setCell ?_ ?_ _) | (refine leB ?_; omega)))
  have lsW1 := kaW1.size
  have hb2 : w.heap.size + 1 < b := by
    simp at hb1
    omega
  have bwW1 := hr.1
  have HR := Lib.hid fun W (k : Below (b + 1) W1 W) => hr.keep k
  clear hb1 bel hr H0
  go_wp2_with fail
  refine (mat_any b 0 _ (HR.out _ (by repeat' (first | (with_reducible first | assumption | exact Below.refl _ _ | refine Below.drew ?_ | refine below_alloc ?_ ?_ _ | refine below_set ?_ ?_ _) | (refine leB ?_; omega)))) (by omega)).mono ?_
  rintro e W2 ⟨x, q, rfl, hx, hq, ho, hr⟩
  have Br : Blk W2 (w.heap.size) [.int .i64 0, .int .i64 0, .int .i64 0, .int .i64 0, .int .i64 0, .int .i64 0, .int .i64 0, .int .i64 0, .int .i64 0, .int .i64 0, .int .i64 0, .int .i64 0] := Blk.keepo ho (neB (by omega)) (by repeat' (first | (with_reducible first | assumption | refine Blk.drew ?_ | refine Blk.drewN ?_ _ | apply Blk.set | (refine Blk.new ?_; focus (first | rfl | (simp; done))) | refine Blk.alloc ?_ _ | refine Blk.other ?_ ?_ _) | exact eqL rfl | (refine neB ?_; omega)))
  have Bs : Blk W2 (w.heap.size + 1) [.int .i64 0, .int .i64 0, .int .i64 0] := Blk.keepo ho (neB (by omega)) (by repeat' (first | (with_reducible first | assumption | refine Blk.drew ?_ | refine Blk.drewN ?_ _ | apply Blk.set | (refine Blk.new ?_; focus (first | rfl | (simp; done))) | refine Blk.alloc ?_ _ | refine Blk.other ?_ ?_ _) | exact eqL rfl | (refine neB ?_; omega)))
  have cr := Br.cell
  have fr := Br.free
  have lr_W2 := Br.lt
  have cs := Bs.cell
  have fs := Bs.free
  have ls_W2 := Bs.lt
  have kaW2 : Acc w W2 := by
    refine Below.trans (b := _) ?_ (ho.below ?_ (by omega))
    · show Acc w _
      (repeat' (first | (with_reducible first | assumption | exact Acc.refl _ | refine Acc.drew ?_ | refine Acc.drewN ?_ _ | refine Acc.alloc ?_ _ | refine Acc.setCell ?_ ?_ _) | (refine leB ?_; omega)))
    · (refine Nat.le_trans ?_ (Nat.le_of_lt_succ (Nat.lt_succ_of_le (Nat.le_refl _))); (first | omega | (simp; omega)))
  have lsW2 := kaW2.size
  have bwW2 : b < W2.heap.size := hr.1
  have HR := Lib.hid fun W (k : Below (b + 1) W2 W) => hr.keep k
  clear ho hr
  go_upto_region 3 with fail
  go_region_held3 (fun w' => (∀ k, w'.cell? ⟨W2.heap.size, k, none⟩ = [.int .i64 x.1.1, .int .i64 x.1.2.1, .int .i64 x.1.2.2, .int .i64 x.2.1.1, .int .i64 x.2.1.2.1, .int .i64 x.2.1.2.2, .int .i64 x.2.2.1.1, .int .i64 x.2.2.1.2.1, .int .i64 x.2.2.1.2.2, .int .i64 x.2.2.2.1, .int .i64 x.2.2.2.2.1, .int .i64 x.2.2.2.2.2][k]?))
    (((try dsimp only); (refine Blk.cell ?_ <;> (repeat' (first | (with_reducible first | assumption | refine Blk.drew ?_ | refine Blk.drewN ?_ _ | apply Blk.set | (refine Blk.new ?_; focus (first | rfl | (simp; done))) | refine Blk.alloc ?_ _ | refine Blk.other ?_ ?_ _) | exact eqL rfl | (refine neB ?_; omega))))))
    (first
      | (go_at_call 67; refine (frac_any b q _ (HR.out _ (by repeat' (first | (with_reducible first | assumption | exact Below.refl _ _ | refine Below.drew ?_ | refine below_alloc ?_ ?_ _ | refine below_set ?_ ?_ _) | (refine leB ?_; omega)))) (by omega)).mono ?_; rintro e W3 ⟨c1, c2, c3, q2, rfl, hd, ho, hq2, hr⟩; have Br : Blk W3 (w.heap.size) [.int .i64 0, .int .i64 0, .int .i64 0, .int .i64 0, .int .i64 0, .int .i64 0, .int .i64 0, .int .i64 0, .int .i64 0, .int .i64 0, .int .i64 0, .int .i64 0] := Blk.keepo ho (neB (by omega)) (by repeat' (first | (with_reducible first | assumption | refine Blk.drew ?_ | refine Blk.drewN ?_ _ | apply Blk.set | (refine Blk.new ?_; focus (first | rfl | (simp; done))) | refine Blk.alloc ?_ _ | refine Blk.other ?_ ?_ _) | exact eqL rfl | (refine neB ?_; omega))); have Bs : Blk W3 (w.heap.size + 1) [.int .i64 0, .int .i64 0, .int .i64 0] := Blk.keepo ho (neB (by omega)) (by repeat' (first | (with_reducible first | assumption | refine Blk.drew ?_ | refine Blk.drewN ?_ _ | apply Blk.set | (refine Blk.new ?_; focus (first | rfl | (simp; done))) | refine Blk.alloc ?_ _ | refine Blk.other ?_ ?_ _) | exact eqL rfl | (refine neB ?_; omega))); have Ba : Blk W3 (W2.heap.size) [.int .i64 x.1.1, .int .i64 x.1.2.1, .int .i64 x.1.2.2, .int .i64 x.2.1.1, .int .i64 x.2.1.2.1, .int .i64 x.2.1.2.2, .int .i64 x.2.2.1.1, .int .i64 x.2.2.1.2.1, .int .i64 x.2.2.1.2.2, .int .i64 x.2.2.2.1, .int .i64 x.2.2.2.2.1, .int .i64 x.2.2.2.2.2] := Blk.keepo ho (neB (by omega)) (by repeat' (first | (with_reducible first | assumption | refine Blk.drew ?_ | refine Blk.drewN ?_ _ | apply Blk.set | (refine Blk.new ?_; focus (first | rfl | (simp; done))) | refine Blk.alloc ?_ _ | refine Blk.other ?_ ?_ _) | exact eqL rfl | (refine neB ?_; omega))); have cr := Br.cell; have fr := Br.free; have lr_W3 := Br.lt; have cs := Bs.cell; have fs := Bs.free; have ls_W3 := Bs.lt; have ca := Ba.cell; have fa := Ba.free; have la_W3 := Ba.lt; have kzW3 : Acc w W3 := (by refine Below.trans (b := _) ?_ (ho.below ?_ (by omega)); (focus (show Acc w _; (repeat' (first | (with_reducible first | assumption | exact Acc.refl _ | refine Acc.drew ?_ | refine Acc.drewN ?_ _ | refine Acc.alloc ?_ _ | refine Acc.setCell ?_ ?_ _) | (refine leB ?_; omega))))); (focus (first | omega | (simp; omega)))); obtain ⟨hc1, hc2, hc3⟩ := drawn_i64 hd; clear hd; clear ho hr))
  all_goals
    go_wp2_with fail
    refine bodyPost_ret (v := .tuple #[.agg #[.int .i64 x.1.1, .int .i64 x.1.2.1, .int .i64 x.1.2.2, .int .i64 x.2.1.1, .int .i64 x.2.1.2.1, .int .i64 x.2.1.2.2, .int .i64 x.2.2.1.1, .int .i64 x.2.2.1.2.1, .int .i64 x.2.2.1.2.2, .int .i64 x.2.2.2.1, .int .i64 x.2.2.2.2.1, .int .i64 x.2.2.2.2.2], .agg #[.int .i64 c1, .int .i64 c2, .int .i64 c3]]) (by simp [results, Tryd.results41, go_sem, *]) rfl ⟨x, (c1, c2, c3), rfl, hx, ⟨hc1, hc2, hc3⟩, ?_⟩
    show Acc w _
    (repeat' (first | (with_reducible first | assumption | exact Acc.refl _ | refine Acc.drew ?_ | refine Acc.drewN ?_ _ | refine Acc.alloc ?_ _ | refine Acc.setCell ?_ ?_ _) | (refine leB ?_; omega)))
set_option maxHeartbeats 2000000 in
theorem drawMatTimes_any (a : Option Addr) (len cap : Nat) (w : World) (h : Code8 w a len cap) :
    Calls Tryd.prog 12 #[.slice a len cap] w (DrewMM w) := by
  have H0 := Lib.hid ((h.alloc (.cells #[.int .i64 0, .int .i64 0, .int .i64 0, .int .i64 0, .int .i64 0, .int .i64 0, .int .i64 0, .int .i64 0, .int .i64 0, .int .i64 0, .int .i64 0, .int .i64 0] 27)).alloc (.cells #[.int .i64 0, .int .i64 0, .int .i64 0, .int .i64 0, .int .i64 0, .int .i64 0, .int .i64 0, .int .i64 0, .int .i64 0, .int .i64 0, .int .i64 0, .int .i64 0] 27))
  clear h
  go_enter Tryd.func12, Tryd.ntmps12
  go_wp2_with fail
  refine (mats_any a len cap _ H0.out).mono ?_
  rintro e W1 ⟨x, y, rfl, hx, hy, hb⟩
  obtain ⟨Br, Bs⟩ : Blk W1 (w.heap.size) [.int .i64 0, .int .i64 0, .int .i64 0, .int .i64 0, .int .i64 0, .int .i64 0, .int .i64 0, .int .i64 0, .int .i64 0, .int .i64 0, .int .i64 0, .int .i64 0] ∧ Blk W1 (w.heap.size + 1) [.int .i64 0, .int .i64 0, .int .i64 0, .int .i64 0, .int .i64 0, .int .i64 0, .int .i64 0, .int .i64 0, .int .i64 0, .int .i64 0, .int .i64 0, .int .i64 0] := by
    refine ⟨?_, ?_⟩ <;> refine Blk.keep hb ?_ <;> (repeat' (first | (with_reducible first | assumption | refine Blk.drew ?_ | refine Blk.drewN ?_ _ | apply Blk.set | (refine Blk.new ?_; focus (first | rfl | (simp; done))) | refine Blk.alloc ?_ _ | refine Blk.other ?_ ?_ _) | exact eqL rfl | (refine neB ?_; omega)))
  have cr := Br.cell
  have fr := Br.free
  have lr_W1 := Br.lt
  have cs := Bs.cell
  have fs := Bs.free
  have ls_W1 := Bs.lt
  have kaW1 : Acc w W1 := by
    refine Acc.call ?_ hb
    (repeat' (first | (with_reducible first | assumption | exact Acc.refl _ | refine Acc.drew ?_ | refine Acc.drewN ?_ _ | refine Acc.alloc ?_ _ | refine Acc.setCell ?_ ?_ _) | (refine leB ?_; omega)))
  clear hb
  go_wp2_with fail
  refine bodyPost_ret (v := .tuple #[.agg #[.int .i64 x.1.1, .int .i64 x.1.2.1, .int .i64 x.1.2.2, .int .i64 x.2.1.1, .int .i64 x.2.1.2.1, .int .i64 x.2.1.2.2, .int .i64 x.2.2.1.1, .int .i64 x.2.2.1.2.1, .int .i64 x.2.2.1.2.2, .int .i64 x.2.2.2.1, .int .i64 x.2.2.2.2.1, .int .i64 x.2.2.2.2.2], .agg #[.int .i64 y.1.1, .int .i64 y.1.2.1, .int .i64 y.1.2.2, .int .i64 y.2.1.1, .int .i64 y.2.1.2.1, .int .i64 y.2.1.2.2, .int .i64 y.2.2.1.1, .int .i64 y.2.2.1.2.1, .int .i64 y.2.2.1.2.2, .int .i64 y.2.2.2.1, .int .i64 y.2.2.2.2.1, .int .i64 y.2.2.2.2.2]]) (by simp [results, Tryd.results12, go_sem, *]) rfl ⟨x, y, rfl, hx, hy, ?_⟩
  show Acc w _
  (repeat' (first | (with_reducible first | assumption | exact Acc.refl _ | refine Acc.drew ?_ | refine Acc.drewN ?_ _ | refine Acc.alloc ?_ _ | refine Acc.setCell ?_ ?_ _) | (refine leB ?_; omega)))
end Go.Proofs.YtnfbopaafciiiabDoor
