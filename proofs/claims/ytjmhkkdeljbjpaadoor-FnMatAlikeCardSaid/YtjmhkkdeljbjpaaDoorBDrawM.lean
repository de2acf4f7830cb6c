/-
  The draws of vectors and matrices.
-/
import Derived.Test.YtjmhkkdeljbjpaaDoorBDrawF
import Derived.Test.YtjmhkkdeljbjpaaDoorBMem
import Derived.Deep.RegionHeld3
import Derived.Test.YtjmhkkdeljbjpaaDoorBLet
import Derived.Test.YtjmhkkdeljbjpaaDoorSpecM6
namespace Go.Proofs.YtjmhkkdeljbjpaaDoor
open Go.ChangeShapes Go.WideShapes Go.ChangeAt Go.RowKit
set_option linter.unusedVariables false

/-- A drawn direction. -/
def DrewD (b p : Nat) (w : World) (e : Ending) (w' : World) : Prop :=
  ∃ (x y : Int) (q : Nat), e = .returned (.tuple #[.int .i64 x, .int .i64 y]) ∧ -3 ≤ x ∧ x ≤ 101 ∧ -3 ≤ y ∧ y ≤ 3 ∧ q ≤ p + 3 ∧ Only b w w' ∧ Rd w' b q
set_option maxHeartbeats 4000000 in
theorem direction_any (b p : Nat) (w : World) (h : Rd w b p) (hp : p < 999900) :
    Calls Tryd.prog 38 #[.pointer (some ⟨b, 0, none⟩)] w (DrewD b p w) := by
  have bw : b < w.heap.size := h.1
  have HR := Lib.hid fun W (k : Below (b + 1) w W) => h.keep k
  clear h
  go_enter Tryd.func38, Tryd.ntmps38
  go_wp2_with fail
  refine (pick_any b p 7 _ (HR.out _ (by repeat' (first | (with_reducible first | assumption | exact Below.refl _ _ | refine Below.drew ?_ | refine below_alloc ?_ ?_ _ | refine below_set ?_ ?_ _) | (refine leB ?_; omega)))) (by omega) (by omega) (by omega)).mono ?_
  rintro e W1 ⟨i, rfl, i0, i1, ho, hr⟩
  have oaW1 : Only b w W1 := by
    refine Only.trans ?_ ho
    (repeat' (first | (with_reducible first | assumption | exact Only.refl _ _ | refine Only.drew ?_ | refine Only.alloc ?_ _ | refine Only.setCell ?_ ?_ _ | (refine Only.call ?_ ?_; rotate_left; assumption)) | (refine leB ?_; omega)))
  have lsW1 := oaW1.size
  have bwW1 : b < W1.heap.size := hr.1
  have HR := Lib.hid fun W (k : Below (b + 1) W1 W) => hr.keep k
  clear ho hr
  go_wp2_with fail
  refine (pick_any b (p + 1) 7 _ (HR.out _ (by repeat' (first | (with_reducible first | assumption | exact Below.refl _ _ | refine Below.drew ?_ | refine below_alloc ?_ ?_ _ | refine below_set ?_ ?_ _) | (refine leB ?_; omega)))) (by omega) (by omega) (by omega)).mono ?_
  rintro e W2 ⟨j, rfl, j0, j1, ho, hr⟩
  have oaW2 : Only b w W2 := by
    refine Only.trans ?_ ho
    (repeat' (first | (with_reducible first | assumption | exact Only.refl _ _ | refine Only.drew ?_ | refine Only.alloc ?_ _ | refine Only.setCell ?_ ?_ _ | (refine Only.call ?_ ?_; rotate_left; assumption)) | (refine leB ?_; omega)))
  have lsW2 := oaW2.size
  have bwW2 : b < W2.heap.size := hr.1
  have HR := Lib.hid fun W (k : Below (b + 1) W2 W) => hr.keep k
  clear ho hr
  go_wp2_with fail
  refine (pick_any b (p + 1 + 1) 30 _ (HR.out _ (by repeat' (first | (with_reducible first | assumption | exact Below.refl _ _ | refine Below.drew ?_ | refine below_alloc ?_ ?_ _ | refine below_set ?_ ?_ _) | (refine leB ?_; omega)))) (by omega) (by omega) (by omega)).mono ?_
  rintro e W3 ⟨m, rfl, m0, m1, ho, hr⟩
  have oaW3 : Only b w W3 := by
    refine Only.trans ?_ ho
    (repeat' (first | (with_reducible first | assumption | exact Only.refl _ _ | refine Only.drew ?_ | refine Only.alloc ?_ _ | refine Only.setCell ?_ ?_ _ | (refine Only.call ?_ ?_; rotate_left; assumption)) | (refine leB ?_; omega)))
  have lsW3 := oaW3.size
  have bwW3 : b < W3.heap.size := hr.1
  have HR := Lib.hid fun W (k : Below (b + 1) W3 W) => hr.keep k
  clear ho hr
  by_cases hm : m = 0
  · subst hm
    go_wp2_with fail
    refine bodyPost_ret (v := .tuple #[.int .i64 101, .int .i64 (j - 3)]) (by simp [results, Tryd.results38, go_sem, *]) rfl ⟨101, (j - 3), p + 1 + 1 + 1, rfl, by omega, by omega, by omega, by omega, by omega, ?_, HR.out _ ?_⟩
    · (repeat' (first | (with_reducible first | assumption | exact Only.refl _ _ | refine Only.drew ?_ | refine Only.alloc ?_ _ | refine Only.setCell ?_ ?_ _ | (refine Only.call ?_ ?_; rotate_left; assumption)) | (refine leB ?_; omega)))
    · (repeat' (first | (with_reducible first | assumption | exact Below.refl _ _ | refine Below.drew ?_ | refine below_alloc ?_ ?_ _ | refine below_set ?_ ?_ _) | (refine leB ?_; omega)))
  · skip
    go_wp2_with fail
    refine bodyPost_ret (v := .tuple #[.int .i64 (i - 3), .int .i64 (j - 3)]) (by simp [results, Tryd.results38, go_sem, *]) rfl ⟨(i - 3), (j - 3), p + 1 + 1 + 1, rfl, by omega, by omega, by omega, by omega, by omega, ?_, HR.out _ ?_⟩
    · (repeat' (first | (with_reducible first | assumption | exact Only.refl _ _ | refine Only.drew ?_ | refine Only.alloc ?_ _ | refine Only.setCell ?_ ?_ _ | (refine Only.call ?_ ?_; rotate_left; assumption)) | (refine leB ?_; omega)))
    · (repeat' (first | (with_reducible first | assumption | exact Below.refl _ _ | refine Below.drew ?_ | refine below_alloc ?_ ?_ _ | refine below_set ?_ ?_ _) | (refine leB ?_; omega)))
/-- A drawn matrix: of ints of 64 bits. -/
def DrewM (b p : Nat) (w : World) (e : Ending) (w' : World) : Prop :=
  ∃ (x : F4) (q : Nat), e = .returned (.agg #[.int .i64 x.1.1, .int .i64 x.1.2.1, .int .i64 x.1.2.2, .int .i64 x.2.1.1, .int .i64 x.2.1.2.1, .int .i64 x.2.1.2.2, .int .i64 x.2.2.1.1, .int .i64 x.2.2.1.2.1, .int .i64 x.2.2.1.2.2, .int .i64 x.2.2.2.1, .int .i64 x.2.2.2.2.1, .int .i64 x.2.2.2.2.2]) ∧ i64M x ∧ q ≤ p + 26 ∧ Only b w w' ∧ Rd w' b q
theorem DrewM.mk {b p q : Nat} {w w' : World} {v : Value} (x : F4) (e : v = .agg #[.int .i64 x.1.1, .int .i64 x.1.2.1, .int .i64 x.1.2.2, .int .i64 x.2.1.1, .int .i64 x.2.1.2.1, .int .i64 x.2.1.2.2, .int .i64 x.2.2.1.1, .int .i64 x.2.2.1.2.1, .int .i64 x.2.2.1.2.2, .int .i64 x.2.2.2.1, .int .i64 x.2.2.2.2.1, .int .i64 x.2.2.2.2.2]) (h : i64M x) (hq : q ≤ p + 26) (ho : Only b w w') (hr : Rd w' b q) : DrewM b p w (.returned v) w' := ⟨x, q, by rw [e], h, hq, ho, hr⟩
set_option maxHeartbeats 32000000 in
theorem mat_any (b p : Nat) (w : World) (h : Rd w b p) (hp : p < 999800) :
    Calls Tryd.prog 23 #[.pointer (some ⟨b, 0, none⟩)] w (DrewM b p w) := by
  have bw : b < w.heap.size := h.1
  have HR := Lib.hid fun W (k : Below (b + 1) w W) => h.keep k
  clear h
  go_enter Tryd.func23, Tryd.ntmps23
  go_wp2_with fail
  refine (direction_any b p _ (HR.out _ (by repeat' (first | (with_reducible first | assumption | exact Below.refl _ _ | refine Below.drew ?_ | refine below_alloc ?_ ?_ _ | refine below_set ?_ ?_ _) | (refine leB ?_; omega)))) (by omega)).mono ?_
  rintro e W1 ⟨x, y, q, rfl, x0, x1, y0, y1, hq, ho, hr⟩
  have Br : Blk W1 (w.heap.size) [.int .i64 0, .int .i64 0, .int .i64 0, .int .i64 0, .int .i64 0, .int .i64 0, .int .i64 0, .int .i64 0, .int .i64 0, .int .i64 0, .int .i64 0, .int .i64 0] := Blk.keepo ho (neB (by omega)) (by repeat' (first | (with_reducible first | assumption | refine Blk.drew ?_ | refine Blk.drewN ?_ _ | apply Blk.set | (refine Blk.new ?_; focus (first | rfl | (simp; done))) | refine Blk.alloc ?_ _ | refine Blk.other ?_ ?_ _) | exact eqL rfl | (refine neB ?_; omega)))
  have cr := Br.cell
  have fr := Br.free
  have lr_W1 := Br.lt
  have oaW1 : Only b w W1 := by
    refine Only.trans ?_ ho
    (repeat' (first | (with_reducible first | assumption | exact Only.refl _ _ | refine Only.drew ?_ | refine Only.alloc ?_ _ | refine Only.setCell ?_ ?_ _ | (refine Only.call ?_ ?_; rotate_left; assumption)) | (refine leB ?_; omega)))
  have lsW1 := oaW1.size
  have bwW1 : b < W1.heap.size := hr.1
  have HR := Lib.hid fun W (k : Below (b + 1) W1 W) => hr.keep k
  clear ho hr
  go_wp2_with fail
  refine (pick_any b q 4 _ (HR.out _ (by repeat' (first | (with_reducible first | assumption | exact Below.refl _ _ | refine Below.drew ?_ | refine below_alloc ?_ ?_ _ | refine below_set ?_ ?_ _) | (refine leB ?_; omega)))) (by omega) (by omega) (by omega)).mono ?_
  rintro e W2 ⟨j, rfl, j0, j1, ho, hr⟩
  have Br : Blk W2 (w.heap.size) [.int .i64 0, .int .i64 0, .int .i64 0, .int .i64 0, .int .i64 0, .int .i64 0, .int .i64 0, .int .i64 0, .int .i64 0, .int .i64 0, .int .i64 0, .int .i64 0] := Blk.keepo ho (neB (by omega)) (by repeat' (first | (with_reducible first | assumption | refine Blk.drew ?_ | refine Blk.drewN ?_ _ | apply Blk.set | (refine Blk.new ?_; focus (first | rfl | (simp; done))) | refine Blk.alloc ?_ _ | refine Blk.other ?_ ?_ _) | exact eqL rfl | (refine neB ?_; omega)))
  have Bo : Blk W2 (W1.heap.size) [.int .i64 0, .int .i64 0, .int .i64 0, .int .i64 0, .int .i64 0, .int .i64 0, .int .i64 0, .int .i64 0, .int .i64 0, .int .i64 0, .int .i64 0, .int .i64 0] := Blk.keepo ho (neB (by omega)) (by repeat' (first | (with_reducible first | assumption | refine Blk.drew ?_ | refine Blk.drewN ?_ _ | apply Blk.set | (refine Blk.new ?_; focus (first | rfl | (simp; done))) | refine Blk.alloc ?_ _ | refine Blk.other ?_ ?_ _) | exact eqL rfl | (refine neB ?_; omega)))
  have cr := Br.cell
  have fr := Br.free
  have lr_W2 := Br.lt
  have co := Bo.cell
  have fo := Bo.free
  have lo_W2 := Bo.lt
  have oaW2 : Only b w W2 := by
    refine Only.trans ?_ ho
    (repeat' (first | (with_reducible first | assumption | exact Only.refl _ _ | refine Only.drew ?_ | refine Only.alloc ?_ _ | refine Only.setCell ?_ ?_ _ | (refine Only.call ?_ ?_; rotate_left; assumption)) | (refine leB ?_; omega)))
  have lsW2 := oaW2.size
  have bwW2 : b < W2.heap.size := hr.1
  have HR := Lib.hid fun W (k : Below (b + 1) W2 W) => hr.keep k
  clear ho hr
  by_cases h0 : j = 0
  · subst h0
    go_wp2_with fail
    obtain ⟨m, hx⟩ : ∃ m9, valM (rotM x y) = m9 := ⟨_, rfl⟩
    obtain ⟨s, hs⟩ : ∃ s, (rotM x y).isSome = s := ⟨_, rfl⟩
    have Bm := valM_i64 (fun r h => (rot_ok h).2) hx
    have Cm := Lib.hid hx
    have Dm := Lib.hid hs
    clear hx hs
    refine (gaveM_at Cm.out Dm.out (specRot_any x y _)).mono ?_
    rintro e W3 ⟨rfl, hb⟩
    have hr : Rd W3 b (q + 1) := Rd.keep (HR.out _ (by repeat' (first | (with_reducible first | assumption | exact Below.refl _ _ | refine Below.drew ?_ | refine below_alloc ?_ ?_ _ | refine below_set ?_ ?_ _) | (refine leB ?_; omega)))) (hb.mono (by refine leB ?_; first | omega | (simp only [World.alloc, Array.size_push]; omega) | (simp [go_sem]; omega)))
    have Br : Blk W3 (w.heap.size) [.int .i64 0, .int .i64 0, .int .i64 0, .int .i64 0, .int .i64 0, .int .i64 0, .int .i64 0, .int .i64 0, .int .i64 0, .int .i64 0, .int .i64 0, .int .i64 0] := Blk.keep hb (by repeat' (first | (with_reducible first | assumption | refine Blk.drew ?_ | refine Blk.drewN ?_ _ | apply Blk.set | (refine Blk.new ?_; focus (first | rfl | (simp; done))) | refine Blk.alloc ?_ _ | refine Blk.other ?_ ?_ _) | exact eqL rfl | (refine neB ?_; omega)))
    have Bo : Blk W3 (W1.heap.size) [.int .i64 0, .int .i64 0, .int .i64 0, .int .i64 0, .int .i64 0, .int .i64 0, .int .i64 0, .int .i64 0, .int .i64 0, .int .i64 0, .int .i64 0, .int .i64 0] := Blk.keep hb (by repeat' (first | (with_reducible first | assumption | refine Blk.drew ?_ | refine Blk.drewN ?_ _ | apply Blk.set | (refine Blk.new ?_; focus (first | rfl | (simp; done))) | refine Blk.alloc ?_ _ | refine Blk.other ?_ ?_ _) | exact eqL rfl | (refine neB ?_; omega)))
    have cr := Br.cell
    have fr := Br.free
    have lr_W3 := Br.lt
    have co := Bo.cell
    have fo := Bo.free
    have lo_W3 := Bo.lt
    have oaW3 : Only b w W3 := by
      refine Only.call ?_ hb
      (repeat' (first | (with_reducible first | assumption | exact Only.refl _ _ | refine Only.drew ?_ | refine Only.alloc ?_ _ | refine Only.setCell ?_ ?_ _ | (refine Only.call ?_ ?_; rotate_left; assumption)) | (refine leB ?_; omega)))
    have lsW3 := oaW3.size
    have bwW3 : b < W3.heap.size := hr.1
    have HR := Lib.hid fun W (k : Below (b + 1) W3 W) => hr.keep k
    clear hb hr
    cases s with
    | false =>
      go_wp2_with fail
      refine wp_loop_rounds 5 ?_
      rw [rounds_succ]
      go_wp2_with fail
      refine (frac_any b (q + 1) _ (HR.out _ (by repeat' (first | (with_reducible first | assumption | exact Below.refl _ _ | refine Below.drew ?_ | refine below_alloc ?_ ?_ _ | refine below_set ?_ ?_ _) | (refine leB ?_; omega)))) (by omega)).mono ?_
      rintro e W4 ⟨a1, a2, a3, qr0, rfl, hd, ho, hq0, hr⟩
      have Br : Blk W4 (w.heap.size) [.int .i64 0, .int .i64 0, .int .i64 0, .int .i64 0, .int .i64 0, .int .i64 0, .int .i64 0, .int .i64 0, .int .i64 0, .int .i64 0, .int .i64 0, .int .i64 0] := Blk.keepo ho (neB (by omega)) (by repeat' (first | (with_reducible first | assumption | refine Blk.drew ?_ | refine Blk.drewN ?_ _ | apply Blk.set | (refine Blk.new ?_; focus (first | rfl | (simp; done))) | refine Blk.alloc ?_ _ | refine Blk.other ?_ ?_ _) | exact eqL rfl | (refine neB ?_; omega)))
      have Bo : Blk W4 (W1.heap.size) [.int .i64 m.1.1, .int .i64 m.1.2.1, .int .i64 m.1.2.2, .int .i64 m.2.1.1, .int .i64 m.2.1.2.1, .int .i64 m.2.1.2.2, .int .i64 m.2.2.1.1, .int .i64 m.2.2.1.2.1, .int .i64 m.2.2.1.2.2, .int .i64 m.2.2.2.1, .int .i64 m.2.2.2.2.1, .int .i64 m.2.2.2.2.2] := Blk.keepo ho (neB (by omega)) (by repeat' (first | (with_reducible first | assumption | refine Blk.drew ?_ | refine Blk.drewN ?_ _ | apply Blk.set | (refine Blk.new ?_; focus (first | rfl | (simp; done))) | refine Blk.alloc ?_ _ | refine Blk.other ?_ ?_ _) | exact eqL rfl | (refine neB ?_; omega)))
      have cr := Br.cell
      have fr := Br.free
      have lr_W4 := Br.lt
      have co := Bo.cell
      have fo := Bo.free
      have lo_W4 := Bo.lt
      have oaW4 : Only b w W4 := by
        refine Only.trans ?_ ho
        (repeat' (first | (with_reducible first | assumption | exact Only.refl _ _ | refine Only.drew ?_ | refine Only.alloc ?_ _ | refine Only.setCell ?_ ?_ _ | (refine Only.call ?_ ?_; rotate_left; assumption)) | (refine leB ?_; omega)))
      have lsW4 := oaW4.size
      have bwW4 : b < W4.heap.size := hr.1
      have HR := Lib.hid fun W (k : Below (b + 1) W4 W) => hr.keep k
      clear ho hr
      obtain ⟨ha1, ha2, ha3⟩ := drawn_i64 hd
      clear hd
      go_wp2_with fail
      rw [rounds_succ]
      go_wp2_with fail
      refine (frac_any b (qr0) _ (HR.out _ (by repeat' (first | (with_reducible first | assumption | exact Below.refl _ _ | refine Below.drew ?_ | refine below_alloc ?_ ?_ _ | refine below_set ?_ ?_ _) | (refine leB ?_; omega)))) (by omega)).mono ?_
      rintro e W5 ⟨b1, b2, b3, qr1, rfl, hd, ho, hq1, hr⟩
      have Br : Blk W5 (w.heap.size) [.int .i64 0, .int .i64 0, .int .i64 0, .int .i64 0, .int .i64 0, .int .i64 0, .int .i64 0, .int .i64 0, .int .i64 0, .int .i64 0, .int .i64 0, .int .i64 0] := Blk.keepo ho (neB (by omega)) (by repeat' (first | (with_reducible first | assumption | refine Blk.drew ?_ | refine Blk.drewN ?_ _ | apply Blk.set | (refine Blk.new ?_; focus (first | rfl | (simp; done))) | refine Blk.alloc ?_ _ | refine Blk.other ?_ ?_ _) | exact eqL rfl | (refine neB ?_; omega)))
      have Bo : Blk W5 (W1.heap.size) [.int .i64 a1, .int .i64 a2, .int .i64 a3, .int .i64 m.2.1.1, .int .i64 m.2.1.2.1, .int .i64 m.2.1.2.2, .int .i64 m.2.2.1.1, .int .i64 m.2.2.1.2.1, .int .i64 m.2.2.1.2.2, .int .i64 m.2.2.2.1, .int .i64 m.2.2.2.2.1, .int .i64 m.2.2.2.2.2] := Blk.keepo ho (neB (by omega)) (by repeat' (first | (with_reducible first | assumption | refine Blk.drew ?_ | refine Blk.drewN ?_ _ | apply Blk.set | (refine Blk.new ?_; focus (first | rfl | (simp; done))) | refine Blk.alloc ?_ _ | refine Blk.other ?_ ?_ _) | exact eqL rfl | (refine neB ?_; omega)))
      have cr := Br.cell
      have fr := Br.free
      have lr_W5 := Br.lt
      have co := Bo.cell
      have fo := Bo.free
      have lo_W5 := Bo.lt
      have oaW5 : Only b w W5 := by
        refine Only.trans ?_ ho
        (repeat' (first | (with_reducible first | assumption | exact Only.refl _ _ | refine Only.drew ?_ | refine Only.alloc ?_ _ | refine Only.setCell ?_ ?_ _ | (refine Only.call ?_ ?_; rotate_left; assumption)) | (refine leB ?_; omega)))
      have lsW5 := oaW5.size
      have bwW5 : b < W5.heap.size := hr.1
      have HR := Lib.hid fun W (k : Below (b + 1) W5 W) => hr.keep k
      clear ho hr
      obtain ⟨hb1, hb2, hb3⟩ := drawn_i64 hd
      clear hd
      go_wp2_with fail
      rw [rounds_succ]
      go_wp2_with fail
      refine (frac_any b (qr1) _ (HR.out _ (by repeat' (first | (with_reducible first | assumption | exact Below.refl _ _ | refine Below.drew ?_ | refine below_alloc ?_ ?_ _ | refine below_set ?_ ?_ _) | (refine leB ?_; omega)))) (by omega)).mono ?_
      rintro e W6 ⟨c1, c2, c3, qr2, rfl, hd, ho, hq2, hr⟩
      have Br : Blk W6 (w.heap.size) [.int .i64 0, .int .i64 0, .int .i64 0, .int .i64 0, .int .i64 0, .int .i64 0, .int .i64 0, .int .i64 0, .int .i64 0, .int .i64 0, .int .i64 0, .int .i64 0] := Blk.keepo ho (neB (by omega)) (by repeat' (first | (with_reducible first | assumption | refine Blk.drew ?_ | refine Blk.drewN ?_ _ | apply Blk.set | (refine Blk.new ?_; focus (first | rfl | (simp; done))) | refine Blk.alloc ?_ _ | refine Blk.other ?_ ?_ _) | exact eqL rfl | (refine neB ?_; omega)))
      have Bo : Blk W6 (W1.heap.size) [.int .i64 a1, .int .i64 a2, .int .i64 a3, .int .i64 b1, .int .i64 b2, .int .i64 b3, .int .i64 m.2.2.1.1, .int .i64 m.2.2.1.2.1, .int .i64 m.2.2.1.2.2, .int .i64 m.2.2.2.1, .int .i64 m.2.2.2.2.1, .int .i64 m.2.2.2.2.2] := Blk.keepo ho (neB (by omega)) (by repeat' (first | (with_reducible first | assumption | refine Blk.drew ?_ | refine Blk.drewN ?_ _ | apply Blk.set | (refine Blk.new ?_; focus (first | rfl | (simp; done))) | refine Blk.alloc ?_ _ | refine Blk.other ?_ ?_ _) | exact eqL rfl | (refine neB ?_; omega)))
      have cr := Br.cell
      have fr := Br.free
      have lr_W6 := Br.lt
      have co := Bo.cell
      have fo := Bo.free
      have lo_W6 := Bo.lt
      have oaW6 : Only b w W6 := by
        refine Only.trans ?_ ho
        (repeat' (first | (with_reducible first | assumption | exact Only.refl _ _ | refine Only.drew ?_ | refine Only.alloc ?_ _ | refine Only.setCell ?_ ?_ _ | (refine Only.call ?_ ?_; rotate_left; assumption)) | (refine leB ?_; omega)))
      have lsW6 := oaW6.size
      have bwW6 : b < W6.heap.size := hr.1
      have HR := Lib.hid fun W (k : Below (b + 1) W6 W) => hr.keep k
      clear ho hr
      obtain ⟨hc1, hc2, hc3⟩ := drawn_i64 hd
      clear hd
      go_wp2_with fail
      rw [rounds_succ]
      go_wp2_with fail
      refine (frac_any b (qr2) _ (HR.out _ (by repeat' (first | (with_reducible first | assumption | exact Below.refl _ _ | refine Below.drew ?_ | refine below_alloc ?_ ?_ _ | refine below_set ?_ ?_ _) | (refine leB ?_; omega)))) (by omega)).mono ?_
      rintro e W7 ⟨d1, d2, d3, qr3, rfl, hd, ho, hq3, hr⟩
      have Br : Blk W7 (w.heap.size) [.int .i64 0, .int .i64 0, .int .i64 0, .int .i64 0, .int .i64 0, .int .i64 0, .int .i64 0, .int .i64 0, .int .i64 0, .int .i64 0, .int .i64 0, .int .i64 0] := Blk.keepo ho (neB (by omega)) (by repeat' (first | (with_reducible first | assumption | refine Blk.drew ?_ | refine Blk.drewN ?_ _ | apply Blk.set | (refine Blk.new ?_; focus (first | rfl | (simp; done))) | refine Blk.alloc ?_ _ | refine Blk.other ?_ ?_ _) | exact eqL rfl | (refine neB ?_; omega)))
      have Bo : Blk W7 (W1.heap.size) [.int .i64 a1, .int .i64 a2, .int .i64 a3, .int .i64 b1, .int .i64 b2, .int .i64 b3, .int .i64 c1, .int .i64 c2, .int .i64 c3, .int .i64 m.2.2.2.1, .int .i64 m.2.2.2.2.1, .int .i64 m.2.2.2.2.2] := Blk.keepo ho (neB (by omega)) (by repeat' (first | (with_reducible first | assumption | refine Blk.drew ?_ | refine Blk.drewN ?_ _ | apply Blk.set | (refine Blk.new ?_; focus (first | rfl | (simp; done))) | refine Blk.alloc ?_ _ | refine Blk.other ?_ ?_ _) | exact eqL rfl | (refine neB ?_; omega)))
      have cr := Br.cell
      have fr := Br.free
      have lr_W7 := Br.lt
      have co := Bo.cell
      have fo := Bo.free
      have lo_W7 := Bo.lt
      have oaW7 : Only b w W7 := by
        refine Only.trans ?_ ho
        (repeat' (first | (with_reducible first | assumption | exact Only.refl _ _ | refine Only.drew ?_ | refine Only.alloc ?_ _ | refine Only.setCell ?_ ?_ _ | (refine Only.call ?_ ?_; rotate_left; assumption)) | (refine leB ?_; omega)))
      have lsW7 := oaW7.size
      have bwW7 : b < W7.heap.size := hr.1
      have HR := Lib.hid fun W (k : Below (b + 1) W7 W) => hr.keep k
      clear ho hr
      obtain ⟨hd1, hd2, hd3⟩ := drawn_i64 hd
      clear hd
      go_wp2_with fail
      rw [rounds_succ]
      go_wp2_with fail
      refine bodyPost_ret (v := .agg #[.int .i64 a1, .int .i64 a2, .int .i64 a3, .int .i64 b1, .int .i64 b2, .int .i64 b3, .int .i64 c1, .int .i64 c2, .int .i64 c3, .int .i64 d1, .int .i64 d2, .int .i64 d3]) (by simp [results, Tryd.results23, go_sem, *]) rfl (DrewM.mk ((a1, a2, a3), (b1, b2, b3), (c1, c2, c3), (d1, d2, d3)) rfl ⟨⟨ha1, ha2, ha3⟩, ⟨hb1, hb2, hb3⟩, ⟨hc1, hc2, hc3⟩, ⟨hd1, hd2, hd3⟩⟩ (by omega) ?_ (HR.out _ ?_))
      · (repeat' (first | (with_reducible first | assumption | exact Only.refl _ _ | refine Only.drew ?_ | refine Only.alloc ?_ _ | refine Only.setCell ?_ ?_ _ | (refine Only.call ?_ ?_; rotate_left; assumption)) | (refine leB ?_; omega)))
      · (repeat' (first | (with_reducible first | assumption | exact Below.refl _ _ | refine Below.drew ?_ | refine below_alloc ?_ ?_ _ | refine below_set ?_ ?_ _) | (refine leB ?_; omega)))
    | true =>
      go_wp2_with fail
      refine bodyPost_ret (v := .agg #[.int .i64 m.1.1, .int .i64 m.1.2.1, .int .i64 m.1.2.2, .int .i64 m.2.1.1, .int .i64 m.2.1.2.1, .int .i64 m.2.1.2.2, .int .i64 m.2.2.1.1, .int .i64 m.2.2.1.2.1, .int .i64 m.2.2.1.2.2, .int .i64 m.2.2.2.1, .int .i64 m.2.2.2.2.1, .int .i64 m.2.2.2.2.2]) (by simp [results, Tryd.results23, go_sem, *]) rfl (DrewM.mk m rfl Bm (by omega) ?_ (HR.out _ ?_))
      · (repeat' (first | (with_reducible first | assumption | exact Only.refl _ _ | refine Only.drew ?_ | refine Only.alloc ?_ _ | refine Only.setCell ?_ ?_ _ | (refine Only.call ?_ ?_; rotate_left; assumption)) | (refine leB ?_; omega)))
      · (repeat' (first | (with_reducible first | assumption | exact Below.refl _ _ | refine Below.drew ?_ | refine below_alloc ?_ ?_ _ | refine below_set ?_ ?_ _) | (refine leB ?_; omega)))
  · by_cases h1 : j = 1
    · subst h1
      go_wp2_with fail
      refine (pick_any b (q + 1) 4 _ (HR.out _ (by repeat' (first | (with_reducible first | assumption | exact Below.refl _ _ | refine Below.drew ?_ | refine below_alloc ?_ ?_ _ | refine below_set ?_ ?_ _) | (refine leB ?_; omega)))) (by omega) (by omega) (by omega)).mono ?_
      rintro e W3 ⟨i, rfl, i0, i1, ho, hr⟩
      have Br : Blk W3 (w.heap.size) [.int .i64 0, .int .i64 0, .int .i64 0, .int .i64 0, .int .i64 0, .int .i64 0, .int .i64 0, .int .i64 0, .int .i64 0, .int .i64 0, .int .i64 0, .int .i64 0] := Blk.keepo ho (neB (by omega)) (by repeat' (first | (with_reducible first | assumption | refine Blk.drew ?_ | refine Blk.drewN ?_ _ | apply Blk.set | (refine Blk.new ?_; focus (first | rfl | (simp; done))) | refine Blk.alloc ?_ _ | refine Blk.other ?_ ?_ _) | exact eqL rfl | (refine neB ?_; omega)))
      have Bo : Blk W3 (W1.heap.size) [.int .i64 0, .int .i64 0, .int .i64 0, .int .i64 0, .int .i64 0, .int .i64 0, .int .i64 0, .int .i64 0, .int .i64 0, .int .i64 0, .int .i64 0, .int .i64 0] := Blk.keepo ho (neB (by omega)) (by repeat' (first | (with_reducible first | assumption | refine Blk.drew ?_ | refine Blk.drewN ?_ _ | apply Blk.set | (refine Blk.new ?_; focus (first | rfl | (simp; done))) | refine Blk.alloc ?_ _ | refine Blk.other ?_ ?_ _) | exact eqL rfl | (refine neB ?_; omega)))
      have cr := Br.cell
      have fr := Br.free
      have lr_W3 := Br.lt
      have co := Bo.cell
      have fo := Bo.free
      have lo_W3 := Bo.lt
      have oaW3 : Only b w W3 := by
        refine Only.trans ?_ ho
        (repeat' (first | (with_reducible first | assumption | exact Only.refl _ _ | refine Only.drew ?_ | refine Only.alloc ?_ _ | refine Only.setCell ?_ ?_ _ | (refine Only.call ?_ ?_; rotate_left; assumption)) | (refine leB ?_; omega)))
      have lsW3 := oaW3.size
      have bwW3 : b < W3.heap.size := hr.1
      have HR := Lib.hid fun W (k : Below (b + 1) W3 W) => hr.keep k
      clear ho hr
      go_wp2_with fail
      obtain ⟨m, hx⟩ : ∃ m9, valM (plaM x y i) = m9 := ⟨_, rfl⟩
      obtain ⟨s, hs⟩ : ∃ s, (plaM x y i).isSome = s := ⟨_, rfl⟩
      have Bm := valM_i64 (fun r h => (pla_some h).2.2) hx
      have Cm := Lib.hid hx
      have Dm := Lib.hid hs
      clear hx hs
      refine (gaveM_at Cm.out Dm.out (specPla_any x y i _)).mono ?_
      rintro e W4 ⟨rfl, hb⟩
      have hr : Rd W4 b (q + 1 + 1) := Rd.keep (HR.out _ (by repeat' (first | (with_reducible first | assumption | exact Below.refl _ _ | refine Below.drew ?_ | refine below_alloc ?_ ?_ _ | refine below_set ?_ ?_ _) | (refine leB ?_; omega)))) (hb.mono (by refine leB ?_; first | omega | (simp only [World.alloc, Array.size_push]; omega) | (simp [go_sem]; omega)))
      have Br : Blk W4 (w.heap.size) [.int .i64 0, .int .i64 0, .int .i64 0, .int .i64 0, .int .i64 0, .int .i64 0, .int .i64 0, .int .i64 0, .int .i64 0, .int .i64 0, .int .i64 0, .int .i64 0] := Blk.keep hb (by repeat' (first | (with_reducible first | assumption | refine Blk.drew ?_ | refine Blk.drewN ?_ _ | apply Blk.set | (refine Blk.new ?_; focus (first | rfl | (simp; done))) | refine Blk.alloc ?_ _ | refine Blk.other ?_ ?_ _) | exact eqL rfl | (refine neB ?_; omega)))
      have Bo : Blk W4 (W1.heap.size) [.int .i64 0, .int .i64 0, .int .i64 0, .int .i64 0, .int .i64 0, .int .i64 0, .int .i64 0, .int .i64 0, .int .i64 0, .int .i64 0, .int .i64 0, .int .i64 0] := Blk.keep hb (by repeat' (first | (with_reducible first | assumption | refine Blk.drew ?_ | refine Blk.drewN ?_ _ | apply Blk.set | (refine Blk.new ?_; focus (first | rfl | (simp; done))) | refine Blk.alloc ?_ _ | refine Blk.other ?_ ?_ _) | exact eqL rfl | (refine neB ?_; omega)))
      have cr := Br.cell
      have fr := Br.free
      have lr_W4 := Br.lt
      have co := Bo.cell
      have fo := Bo.free
      have lo_W4 := Bo.lt
      have oaW4 : Only b w W4 := by
        refine Only.call ?_ hb
        (repeat' (first | (with_reducible first | assumption | exact Only.refl _ _ | refine Only.drew ?_ | refine Only.alloc ?_ _ | refine Only.setCell ?_ ?_ _ | (refine Only.call ?_ ?_; rotate_left; assumption)) | (refine leB ?_; omega)))
      have lsW4 := oaW4.size
      have bwW4 : b < W4.heap.size := hr.1
      have HR := Lib.hid fun W (k : Below (b + 1) W4 W) => hr.keep k
      clear hb hr
      cases s with
      | false =>
        go_wp2_with fail
        refine wp_loop_rounds 5 ?_
        rw [rounds_succ]
        go_wp2_with fail
        refine (frac_any b (q + 1 + 1) _ (HR.out _ (by repeat' (first | (with_reducible first | assumption | exact Below.refl _ _ | refine Below.drew ?_ | refine below_alloc ?_ ?_ _ | refine below_set ?_ ?_ _) | (refine leB ?_; omega)))) (by omega)).mono ?_
        rintro e W5 ⟨a1, a2, a3, qr0, rfl, hd, ho, hq0, hr⟩
        have Br : Blk W5 (w.heap.size) [.int .i64 0, .int .i64 0, .int .i64 0, .int .i64 0, .int .i64 0, .int .i64 0, .int .i64 0, .int .i64 0, .int .i64 0, .int .i64 0, .int .i64 0, .int .i64 0] := Blk.keepo ho (neB (by omega)) (by repeat' (first | (with_reducible first | assumption | refine Blk.drew ?_ | refine Blk.drewN ?_ _ | apply Blk.set | (refine Blk.new ?_; focus (first | rfl | (simp; done))) | refine Blk.alloc ?_ _ | refine Blk.other ?_ ?_ _) | exact eqL rfl | (refine neB ?_; omega)))
        have Bo : Blk W5 (W1.heap.size) [.int .i64 m.1.1, .int .i64 m.1.2.1, .int .i64 m.1.2.2, .int .i64 m.2.1.1, .int .i64 m.2.1.2.1, .int .i64 m.2.1.2.2, .int .i64 m.2.2.1.1, .int .i64 m.2.2.1.2.1, .int .i64 m.2.2.1.2.2, .int .i64 m.2.2.2.1, .int .i64 m.2.2.2.2.1, .int .i64 m.2.2.2.2.2] := Blk.keepo ho (neB (by omega)) (by repeat' (first | (with_reducible first | assumption | refine Blk.drew ?_ | refine Blk.drewN ?_ _ | apply Blk.set | (refine Blk.new ?_; focus (first | rfl | (simp; done))) | refine Blk.alloc ?_ _ | refine Blk.other ?_ ?_ _) | exact eqL rfl | (refine neB ?_; omega)))
        have cr := Br.cell
        have fr := Br.free
        have lr_W5 := Br.lt
        have co := Bo.cell
        have fo := Bo.free
        have lo_W5 := Bo.lt
        have oaW5 : Only b w W5 := by
          refine Only.trans ?_ ho
          (repeat' (first | (with_reducible first | assumption | exact Only.refl _ _ | refine Only.drew ?_ | refine Only.alloc ?_ _ | refine Only.setCell ?_ ?_ _ | (refine Only.call ?_ ?_; rotate_left; assumption)) | (refine leB ?_; omega)))
        have lsW5 := oaW5.size
        have bwW5 : b < W5.heap.size := hr.1
        have HR := Lib.hid fun W (k : Below (b + 1) W5 W) => hr.keep k
        clear ho hr
        obtain ⟨ha1, ha2, ha3⟩ := drawn_i64 hd
        clear hd
        go_wp2_with fail
        rw [rounds_succ]
        go_wp2_with fail
        refine (frac_any b (qr0) _ (HR.out _ (by repeat' (first | (with_reducible first | assumption | exact Below.refl _ _ | refine Below.drew ?_ | refine below_alloc ?_ ?_ _ | refine below_set ?_ ?_ _) | (refine leB ?_; omega)))) (by omega)).mono ?_
        rintro e W6 ⟨b1, b2, b3, qr1, rfl, hd, ho, hq1, hr⟩
        have Br : Blk W6 (w.heap.size) [.int .i64 0, .int .i64 0, .int .i64 0, .int .i64 0, .int .i64 0, .int .i64 0, .int .i64 0, .int .i64 0, .int .i64 0, .int .i64 0, .int .i64 0, .int .i64 0] := Blk.keepo ho (neB (by omega)) (by repeat' (first | (with_reducible first | assumption | refine Blk.drew ?_ | refine Blk.drewN ?_ _ | apply Blk.set | (refine Blk.new ?_; focus (first | rfl | (simp; done))) | refine Blk.alloc ?_ _ | refine Blk.other ?_ ?_ _) | exact eqL rfl | (refine neB ?_; omega)))
        have Bo : Blk W6 (W1.heap.size) [.int .i64 a1, .int .i64 a2, .int .i64 a3, .int .i64 m.2.1.1, .int .i64 m.2.1.2.1, .int .i64 m.2.1.2.2, .int .i64 m.2.2.1.1, .int .i64 m.2.2.1.2.1, .int .i64 m.2.2.1.2.2, .int .i64 m.2.2.2.1, .int .i64 m.2.2.2.2.1, .int .i64 m.2.2.2.2.2] := Blk.keepo ho (neB (by omega)) (by repeat' (first | (with_reducible first | assumption | refine Blk.drew ?_ | refine Blk.drewN ?_ _ | apply Blk.set | (refine Blk.new ?_; focus (first | rfl | (simp; done))) | refine Blk.alloc ?_ _ | refine Blk.other ?_ ?_ _) | exact eqL rfl | (refine neB ?_; omega)))
        have cr := Br.cell
        have fr := Br.free
        have lr_W6 := Br.lt
        have co := Bo.cell
        have fo := Bo.free
        have lo_W6 := Bo.lt
        have oaW6 : Only b w W6 := by
          refine Only.trans ?_ ho
          (repeat' (first | (with_reducible first | assumption | exact Only.refl _ _ | refine Only.drew ?_ | refine Only.alloc ?_ _ | refine Only.setCell ?_ ?_ _ | (refine Only.call ?_ ?_; rotate_left; assumption)) | (refine leB ?_; omega)))
        have lsW6 := oaW6.size
        have bwW6 : b < W6.heap.size := hr.1
        have HR := Lib.hid fun W (k : Below (b + 1) W6 W) => hr.keep k
        clear ho hr
        obtain ⟨hb1, hb2, hb3⟩ := drawn_i64 hd
        clear hd
        go_wp2_with fail
        rw [rounds_succ]
        go_wp2_with fail
        refine (frac_any b (qr1) _ (HR.out _ (by repeat' (first | (with_reducible first | assumption | exact Below.refl _ _ | refine Below.drew ?_ | refine below_alloc ?_ ?_ _ | refine below_set ?_ ?_ _) | (refine leB ?_; omega)))) (by omega)).mono ?_
        rintro e W7 ⟨c1, c2, c3, qr2, rfl, hd, ho, hq2, hr⟩
        have Br : Blk W7 (w.heap.size) [.int .i64 0, .int .i64 0, .int .i64 0, .int .i64 0, .int .i64 0, .int .i64 0, .int .i64 0, .int .i64 0, .int .i64 0, .int .i64 0, .int .i64 0, .int .i64 0] := Blk.keepo ho (neB (by omega)) (by repeat' (first | (with_reducible first | assumption | refine Blk.drew ?_ | refine Blk.drewN ?_ _ | apply Blk.set | (refine Blk.new ?_; focus (first | rfl | (simp; done))) | refine Blk.alloc ?_ _ | refine Blk.other ?_ ?_ _) | exact eqL rfl | (refine neB ?_; omega)))
        have Bo : Blk W7 (W1.heap.size) [.int .i64 a1, .int .i64 a2, .int .i64 a3, .int .i64 b1, .int .i64 b2, .int .i64 b3, .int .i64 m.2.2.1.1, .int .i64 m.2.2.1.2.1, .int .i64 m.2.2.1.2.2, .int .i64 m.2.2.2.1, .int .i64 m.2.2.2.2.1, .int .i64 m.2.2.2.2.2] := Blk.keepo ho (neB (by omega)) (by repeat' (first | (with_reducible first | assumption | refine Blk.drew ?_ | refine Blk.drewN ?_ _ | apply Blk.set | (refine Blk.new ?_; focus (first | rfl | (simp; done))) | refine Blk.alloc ?_ _ | refine Blk.other ?_ ?_ _) | exact eqL rfl | (refine neB ?_; omega)))
        have cr := Br.cell
        have fr := Br.free
        have lr_W7 := Br.lt
        have co := Bo.cell
        have fo := Bo.free
        have lo_W7 := Bo.lt
        have oaW7 : Only b w W7 := by
          refine Only.trans ?_ ho
          (repeat' (first | (with_reducible first | assumption | exact Only.refl _ _ | refine Only.drew ?_ | refine Only.alloc ?_ _ | refine Only.setCell ?_ ?_ _ | (refine Only.call ?_ ?_; rotate_left; assumption)) | (refine leB ?_; omega)))
        have lsW7 := oaW7.size
        have bwW7 : b < W7.heap.size := hr.1
        have HR := Lib.hid fun W (k : Below (b + 1) W7 W) => hr.keep k
        clear ho hr
        obtain ⟨hc1, hc2, hc3⟩ := drawn_i64 hd
        clear hd
        go_wp2_with fail
        rw [rounds_succ]
        go_wp2_with fail
        refine (frac_any b (qr2) _ (HR.out _ (by repeat' (first | (with_reducible first | assumption | exact Below.refl _ _ | refine Below.drew ?_ | refine below_alloc ?_ ?_ _ | refine below_set ?_ ?_ _) | (refine leB ?_; omega)))) (by omega)).mono ?_
        rintro e W8 ⟨d1, d2, d3, qr3, rfl, hd, ho, hq3, hr⟩
        have Br : Blk W8 (w.heap.size) [.int .i64 0, .int .i64 0, .int .i64 0, .int .i64 0, .int .i64 0, .int .i64 0, .int .i64 0, .int .i64 0, .int .i64 0, .int .i64 0, .int .i64 0, .int .i64 0] := Blk.keepo ho (neB (by omega)) (by repeat' (first | (with_reducible first | assumption | refine Blk.drew ?_ | refine Blk.drewN ?_ _ | apply Blk.set | (refine Blk.new ?_; focus (first | rfl | (simp; done))) | refine Blk.alloc ?_ _ | refine Blk.other ?_ ?_ _) | exact eqL rfl | (refine neB ?_; omega)))
        have Bo : Blk W8 (W1.heap.size) [.int .i64 a1, .int .i64 a2, .int .i64 a3, .int .i64 b1, .int .i64 b2, .int .i64 b3, .int .i64 c1, .int .i64 c2, .int .i64 c3, .int .i64 m.2.2.2.1, .int .i64 m.2.2.2.2.1, .int .i64 m.2.2.2.2.2] := Blk.keepo ho (neB (by omega)) (by repeat' (first | (with_reducible first | assumption | refine Blk.drew ?_ | refine Blk.drewN ?_ _ | apply Blk.set | (refine Blk.new ?_; focus (first | rfl | (simp; done))) | refine Blk.alloc ?_ _ | refine Blk.other ?_ ?_ _) | exact eqL rfl | (refine neB ?_; omega)))
        have cr := Br.cell
        have fr := Br.free
        have lr_W8 := Br.lt
        have co := Bo.cell
        have fo := Bo.free
        have lo_W8 := Bo.lt
        have oaW8 : Only b w W8 := by
          refine Only.trans ?_ ho
          (repeat' (first | (with_reducible first | assumption | exact Only.refl _ _ | refine Only.drew ?_ | refine Only.alloc ?_ _ | refine Only.setCell ?_ ?_ _ | (refine Only.call ?_ ?_; rotate_left; assumption)) | (refine leB ?_; omega)))
        have lsW8 := oaW8.size
        have bwW8 : b < W8.heap.size := hr.1
        have HR := Lib.hid fun W (k : Below (b + 1) W8 W) => hr.keep k
        clear ho hr
        obtain ⟨hd1, hd2, hd3⟩ := drawn_i64 hd
        clear hd
        go_wp2_with fail
        rw [rounds_succ]
        go_wp2_with fail
        refine bodyPost_ret (v := .agg #[.int .i64 a1, .int .i64 a2, .int .i64 a3, .int .i64 b1, .int .i64 b2, .int .i64 b3, .int .i64 c1, .int .i64 c2, .int .i64 c3, .int .i64 d1, .int .i64 d2, .int .i64 d3]) (by simp [results, Tryd.results23, go_sem, *]) rfl (DrewM.mk ((a1, a2, a3), (b1, b2, b3), (c1, c2, c3), (d1, d2, d3)) rfl ⟨⟨ha1, ha2, ha3⟩, ⟨hb1, hb2, hb3⟩, ⟨hc1, hc2, hc3⟩, ⟨hd1, hd2, hd3⟩⟩ (by omega) ?_ (HR.out _ ?_))
        · (repeat' (first | (with_reducible first | assumption | exact Only.refl _ _ | refine Only.drew ?_ | refine Only.alloc ?_ _ | refine Only.setCell ?_ ?_ _ | (refine Only.call ?_ ?_; rotate_left; assumption)) | (refine leB ?_; omega)))
        · (repeat' (first | (with_reducible first | assumption | exact Below.refl _ _ | refine Below.drew ?_ | refine below_alloc ?_ ?_ _ | refine below_set ?_ ?_ _) | (refine leB ?_; omega)))
      | true =>
        go_wp2_with fail
        refine bodyPost_ret (v := .agg #[.int .i64 m.1.1, .int .i64 m.1.2.1, .int .i64 m.1.2.2, .int .i64 m.2.1.1, .int .i64 m.2.1.2.1, .int .i64 m.2.1.2.2, .int .i64 m.2.2.1.1, .int .i64 m.2.2.1.2.1, .int .i64 m.2.2.1.2.2, .int .i64 m.2.2.2.1, .int .i64 m.2.2.2.2.1, .int .i64 m.2.2.2.2.2]) (by simp [results, Tryd.results23, go_sem, *]) rfl (DrewM.mk m rfl Bm (by omega) ?_ (HR.out _ ?_))
        · (repeat' (first | (with_reducible first | assumption | exact Only.refl _ _ | refine Only.drew ?_ | refine Only.alloc ?_ _ | refine Only.setCell ?_ ?_ _ | (refine Only.call ?_ ?_; rotate_left; assumption)) | (refine leB ?_; omega)))
        · (repeat' (first | (with_reducible first | assumption | exact Below.refl _ _ | refine Below.drew ?_ | refine below_alloc ?_ ?_ _ | refine below_set ?_ ?_ _) | (refine leB ?_; omega)))
    · by_cases h2 : j = 2
      · subst h2
        go_wp2_with fail
        obtain ⟨m, hx⟩ : ∃ m9, valM (filM x y) = m9 := ⟨_, rfl⟩
        obtain ⟨s, hs⟩ : ∃ s, (filM x y).isSome = s := ⟨_, rfl⟩
        have Bm := valM_i64 (fun r h => fil_ok h) hx
        have Cm := Lib.hid hx
        have Dm := Lib.hid hs
        clear hx hs
        refine (gaveM_at Cm.out Dm.out (specFil_any x y _)).mono ?_
        rintro e W3 ⟨rfl, hb⟩
        have hr : Rd W3 b (q + 1) := Rd.keep (HR.out _ (by repeat' (first | (with_reducible first | assumption | exact Below.refl _ _ | refine Below.drew ?_ | refine below_alloc ?_ ?_ _ | refine below_set ?_ ?_ _) | (refine leB ?_; omega)))) (hb.mono (by refine leB ?_; first | omega | (simp only [World.alloc, Array.size_push]; omega) | (simp [go_sem]; omega)))
        have Br : Blk W3 (w.heap.size) [.int .i64 0, .int .i64 0, .int .i64 0, .int .i64 0, .int .i64 0, .int .i64 0, .int .i64 0, .int .i64 0, .int .i64 0, .int .i64 0, .int .i64 0, .int .i64 0] := Blk.keep hb (by repeat' (first | (with_reducible first | assumption | refine Blk.drew ?_ | refine Blk.drewN ?_ _ | apply Blk.set | (refine Blk.new ?_; focus (first | rfl | (simp; done))) | refine Blk.alloc ?_ _ | refine Blk.other ?_ ?_ _) | exact eqL rfl | (refine neB ?_; omega)))
        have Bo : Blk W3 (W1.heap.size) [.int .i64 0, .int .i64 0, .int .i64 0, .int .i64 0, .int .i64 0, .int .i64 0, .int .i64 0, .int .i64 0, .int .i64 0, .int .i64 0, .int .i64 0, .int .i64 0] := Blk.keep hb (by repeat' (first | (with_reducible first | assumption | refine Blk.drew ?_ | refine Blk.drewN ?_ _ | apply Blk.set | (refine Blk.new ?_; focus (first | rfl | (simp; done))) | refine Blk.alloc ?_ _ | refine Blk.other ?_ ?_ _) | exact eqL rfl | (refine neB ?_; omega)))
        have cr := Br.cell
        have fr := Br.free
        have lr_W3 := Br.lt
        have co := Bo.cell
        have fo := Bo.free
        have lo_W3 := Bo.lt
        have oaW3 : Only b w W3 := by
          refine Only.call ?_ hb
          (repeat' (first | (with_reducible first | assumption | exact Only.refl _ _ | refine Only.drew ?_ | refine Only.alloc ?_ _ | refine Only.setCell ?_ ?_ _ | (refine Only.call ?_ ?_; rotate_left; assumption)) | (refine leB ?_; omega)))
        have lsW3 := oaW3.size
        have bwW3 : b < W3.heap.size := hr.1
        have HR := Lib.hid fun W (k : Below (b + 1) W3 W) => hr.keep k
        clear hb hr
        cases s with
        | false =>
          go_wp2_with fail
          refine wp_loop_rounds 5 ?_
          rw [rounds_succ]
          go_wp2_with fail
          refine (frac_any b (q + 1) _ (HR.out _ (by repeat' (first | (with_reducible first | assumption | exact Below.refl _ _ | refine Below.drew ?_ | refine below_alloc ?_ ?_ _ | refine below_set ?_ ?_ _) | (refine leB ?_; omega)))) (by omega)).mono ?_
          rintro e W4 ⟨a1, a2, a3, qr0, rfl, hd, ho, hq0, hr⟩
          have Br : Blk W4 (w.heap.size) [.int .i64 0, .int .i64 0, .int .i64 0, .int .i64 0, .int .i64 0, .int .i64 0, .int .i64 0, .int .i64 0, .int .i64 0, .int .i64 0, .int .i64 0, .int .i64 0] := Blk.keepo ho (neB (by omega)) (by repeat' (first | (with_reducible first | assumption | refine Blk.drew ?_ | refine Blk.drewN ?_ _ | apply Blk.set | (refine Blk.new ?_; focus (first | rfl | (simp; done))) | refine Blk.alloc ?_ _ | refine Blk.other ?_ ?_ _) | exact eqL rfl | (refine neB ?_; omega)))
          have Bo : Blk W4 (W1.heap.size) [.int .i64 m.1.1, .int .i64 m.1.2.1, .int .i64 m.1.2.2, .int .i64 m.2.1.1, .int .i64 m.2.1.2.1, .int .i64 m.2.1.2.2, .int .i64 m.2.2.1.1, .int .i64 m.2.2.1.2.1, .int .i64 m.2.2.1.2.2, .int .i64 m.2.2.2.1, .int .i64 m.2.2.2.2.1, .int .i64 m.2.2.2.2.2] := Blk.keepo ho (neB (by omega)) (by repeat' (first | (with_reducible first | assumption | refine Blk.drew ?_ | refine Blk.drewN ?_ _ | apply Blk.set | (refine Blk.new ?_; focus (first | rfl | (simp; done))) | refine Blk.alloc ?_ _ | refine Blk.other ?_ ?_ _) | exact eqL rfl | (refine neB ?_; omega)))
          have cr := Br.cell
          have fr := Br.free
          have lr_W4 := Br.lt
          have co := Bo.cell
          have fo := Bo.free
          have lo_W4 := Bo.lt
          have oaW4 : Only b w W4 := by
            refine Only.trans ?_ ho
            (repeat' (first | (with_reducible first | assumption | exact Only.refl _ _ | refine Only.drew ?_ | refine Only.alloc ?_ _ | refine Only.setCell ?_ ?_ _ | (refine Only.call ?_ ?_; rotate_left; assumption)) | (refine leB ?_; omega)))
          have lsW4 := oaW4.size
          have bwW4 : b < W4.heap.size := hr.1
          have HR := Lib.hid fun W (k : Below (b + 1) W4 W) => hr.keep k
          clear ho hr
          obtain ⟨ha1, ha2, ha3⟩ := drawn_i64 hd
          clear hd
          go_wp2_with fail
          rw [rounds_succ]
          go_wp2_with fail
          refine (frac_any b (qr0) _ (HR.out _ (by repeat' (first | (with_reducible first | assumption | exact Below.refl _ _ | refine Below.drew ?_ | refine below_alloc ?_ ?_ _ | refine below_set ?_ ?_ _) | (refine leB ?_; omega)))) (by omega)).mono ?_
          rintro e W5 ⟨b1, b2, b3, qr1, rfl, hd, ho, hq1, hr⟩
          have Br : Blk W5 (w.heap.size) [.int .i64 0, .int .i64 0, .int .i64 0, .int .i64 0, .int .i64 0, .int .i64 0, .int .i64 0, .int .i64 0, .int .i64 0, .int .i64 0, .int .i64 0, .int .i64 0] := Blk.keepo ho (neB (by omega)) (by repeat' (first | (with_reducible first | assumption | refine Blk.drew ?_ | refine Blk.drewN ?_ _ | apply Blk.set | (refine Blk.new ?_; focus (first | rfl | (simp; done))) | refine Blk.alloc ?_ _ | refine Blk.other ?_ ?_ _) | exact eqL rfl | (refine neB ?_; omega)))
          have Bo : Blk W5 (W1.heap.size) [.int .i64 a1, .int .i64 a2, .int .i64 a3, .int .i64 m.2.1.1, .int .i64 m.2.1.2.1, .int .i64 m.2.1.2.2, .int .i64 m.2.2.1.1, .int .i64 m.2.2.1.2.1, .int .i64 m.2.2.1.2.2, .int .i64 m.2.2.2.1, .int .i64 m.2.2.2.2.1, .int .i64 m.2.2.2.2.2] := Blk.keepo ho (neB (by omega)) (by repeat' (first | (with_reducible first | assumption | refine Blk.drew ?_ | refine Blk.drewN ?_ _ | apply Blk.set | (refine Blk.new ?_; focus (first | rfl | (simp; done))) | refine Blk.alloc ?_ _ | refine Blk.other ?_ ?_ _) | exact eqL rfl | (refine neB ?_; omega)))
          have cr := Br.cell
          have fr := Br.free
          have lr_W5 := Br.lt
          have co := Bo.cell
          have fo := Bo.free
          have lo_W5 := Bo.lt
          have oaW5 : Only b w W5 := by
            refine Only.trans ?_ ho
            (repeat' (first | (with_reducible first | assumption | exact Only.refl _ _ | refine Only.drew ?_ | refine Only.alloc ?_ _ | refine Only.setCell ?_ ?_ _ | (refine Only.call ?_ ?_; rotate_left; assumption)) | (refine leB ?_; omega)))
          have lsW5 := oaW5.size
          have bwW5 : b < W5.heap.size := hr.1
          have HR := Lib.hid fun W (k : Below (b + 1) W5 W) => hr.keep k
          clear ho hr
          obtain ⟨hb1, hb2, hb3⟩ := drawn_i64 hd
          clear hd
          go_wp2_with fail
          rw [rounds_succ]
          go_wp2_with fail
          refine (frac_any b (qr1) _ (HR.out _ (by repeat' (first | (with_reducible first | assumption | exact Below.refl _ _ | refine Below.drew ?_ | refine below_alloc ?_ ?_ _ | refine below_set ?_ ?_ _) | (refine leB ?_; omega)))) (by omega)).mono ?_
          rintro e W6 ⟨c1, c2, c3, qr2, rfl, hd, ho, hq2, hr⟩
          have Br : Blk W6 (w.heap.size) [.int .i64 0, .int .i64 0, .int .i64 0, .int .i64 0, .int .i64 0, .int .i64 0, .int .i64 0, .int .i64 0, .int .i64 0, .int .i64 0, .int .i64 0, .int .i64 0] := Blk.keepo ho (neB (by omega)) (by repeat' (first | (with_reducible first | assumption | refine Blk.drew ?_ | refine Blk.drewN ?_ _ | apply Blk.set | (refine Blk.new ?_; focus (first | rfl | (simp; done))) | refine Blk.alloc ?_ _ | refine Blk.other ?_ ?_ _) | exact eqL rfl | (refine neB ?_; omega)))
          have Bo : Blk W6 (W1.heap.size) [.int .i64 a1, .int .i64 a2, .int .i64 a3, .int .i64 b1, .int .i64 b2, .int .i64 b3, .int .i64 m.2.2.1.1, .int .i64 m.2.2.1.2.1, .int .i64 m.2.2.1.2.2, .int .i64 m.2.2.2.1, .int .i64 m.2.2.2.2.1, .int .i64 m.2.2.2.2.2] := Blk.keepo ho (neB (by omega)) (by repeat' (first | (with_reducible first | assumption | refine Blk.drew ?_ | refine Blk.drewN ?_ _ | apply Blk.set | (refine Blk.new ?_; focus (first | rfl | (simp; done))) | refine Blk.alloc ?_ _ | refine Blk.other ?_ ?_ _) | exact eqL rfl | (refine neB ?_; omega)))
          have cr := Br.cell
          have fr := Br.free
          have lr_W6 := Br.lt
          have co := Bo.cell
          have fo := Bo.free
          have lo_W6 := Bo.lt
          have oaW6 : Only b w W6 := by
            refine Only.trans ?_ ho
            (repeat' (first | (with_reducible first | assumption | exact Only.refl _ _ | refine Only.drew ?_ | refine Only.alloc ?_ _ | refine Only.setCell ?_ ?_ _ | (refine Only.call ?_ ?_; rotate_left; assumption)) | (refine leB ?_; omega)))
          have lsW6 := oaW6.size
          have bwW6 : b < W6.heap.size := hr.1
          have HR := Lib.hid fun W (k : Below (b + 1) W6 W) => hr.keep k
          clear ho hr
          obtain ⟨hc1, hc2, hc3⟩ := drawn_i64 hd
          clear hd
          go_wp2_with fail
          rw [rounds_succ]
          go_wp2_with fail
          refine (frac_any b (qr2) _ (HR.out _ (by repeat' (first | (with_reducible first | assumption | exact Below.refl _ _ | refine Below.drew ?_ | refine below_alloc ?_ ?_ _ | refine below_set ?_ ?_ _) | (refine leB ?_; omega)))) (by omega)).mono ?_
          rintro e W7 ⟨d1, d2, d3, qr3, rfl, hd, ho, hq3, hr⟩
          have Br : Blk W7 (w.heap.size) [.int .i64 0, .int .i64 0, .int .i64 0, .int .i64 0, .int .i64 0, .int .i64 0, .int .i64 0, .int .i64 0, .int .i64 0, .int .i64 0, .int .i64 0, .int .i64 0] := Blk.keepo ho (neB (by omega)) (by repeat' (first | (with_reducible first | assumption | refine Blk.drew ?_ | refine Blk.drewN ?_ _ | apply Blk.set | (refine Blk.new ?_; focus (first | rfl | (simp; done))) | refine Blk.alloc ?_ _ | refine Blk.other ?_ ?_ _) | exact eqL rfl | (refine neB ?_; omega)))
          have Bo : Blk W7 (W1.heap.size) [.int .i64 a1, .int .i64 a2, .int .i64 a3, .int .i64 b1, .int .i64 b2, .int .i64 b3, .int .i64 c1, .int .i64 c2, .int .i64 c3, .int .i64 m.2.2.2.1, .int .i64 m.2.2.2.2.1, .int .i64 m.2.2.2.2.2] := Blk.keepo ho (neB (by omega)) (by repeat' (first | (with_reducible first | assumption | refine Blk.drew ?_ | refine Blk.drewN ?_ _ | apply Blk.set | (refine Blk.new ?_; focus (first | rfl | (simp; done))) | refine Blk.alloc ?_ _ | refine Blk.other ?_ ?_ _) | exact eqL rfl | (refine neB ?_; omega)))
          have cr := Br.cell
          have fr := Br.free
          have lr_W7 := Br.lt
          have co := Bo.cell
          have fo := Bo.free
          have lo_W7 := Bo.lt
          have oaW7 : Only b w W7 := by
            refine Only.trans ?_ ho
            (repeat' (first | (with_reducible first | assumption | exact Only.refl _ _ | refine Only.drew ?_ | refine Only.alloc ?_ _ | refine Only.setCell ?_ ?_ _ | (refine Only.call ?_ ?_; rotate_left; assumption)) | (refine leB ?_; omega)))
          have lsW7 := oaW7.size
          have bwW7 : b < W7.heap.size := hr.1
          have HR := Lib.hid fun W (k : Below (b + 1) W7 W) => hr.keep k
          clear ho hr
          obtain ⟨hd1, hd2, hd3⟩ := drawn_i64 hd
          clear hd
          go_wp2_with fail
          rw [rounds_succ]
          go_wp2_with fail
          refine bodyPost_ret (v := .agg #[.int .i64 a1, .int .i64 a2, .int .i64 a3, .int .i64 b1, .int .i64 b2, .int .i64 b3, .int .i64 c1, .int .i64 c2, .int .i64 c3, .int .i64 d1, .int .i64 d2, .int .i64 d3]) (by simp [results, Tryd.results23, go_sem, *]) rfl (DrewM.mk ((a1, a2, a3), (b1, b2, b3), (c1, c2, c3), (d1, d2, d3)) rfl ⟨⟨ha1, ha2, ha3⟩, ⟨hb1, hb2, hb3⟩, ⟨hc1, hc2, hc3⟩, ⟨hd1, hd2, hd3⟩⟩ (by omega) ?_ (HR.out _ ?_))
          · (repeat' (first | (with_reducible first | assumption | exact Only.refl _ _ | refine Only.drew ?_ | refine Only.alloc ?_ _ | refine Only.setCell ?_ ?_ _ | (refine Only.call ?_ ?_; rotate_left; assumption)) | (refine leB ?_; omega)))
          · (repeat' (first | (with_reducible first | assumption | exact Below.refl _ _ | refine Below.drew ?_ | refine below_alloc ?_ ?_ _ | refine below_set ?_ ?_ _) | (refine leB ?_; omega)))
        | true =>
          go_wp2_with fail
          refine bodyPost_ret (v := .agg #[.int .i64 m.1.1, .int .i64 m.1.2.1, .int .i64 m.1.2.2, .int .i64 m.2.1.1, .int .i64 m.2.1.2.1, .int .i64 m.2.1.2.2, .int .i64 m.2.2.1.1, .int .i64 m.2.2.1.2.1, .int .i64 m.2.2.1.2.2, .int .i64 m.2.2.2.1, .int .i64 m.2.2.2.2.1, .int .i64 m.2.2.2.2.2]) (by simp [results, Tryd.results23, go_sem, *]) rfl (DrewM.mk m rfl Bm (by omega) ?_ (HR.out _ ?_))
          · (repeat' (first | (with_reducible first | assumption | exact Only.refl _ _ | refine Only.drew ?_ | refine Only.alloc ?_ _ | refine Only.setCell ?_ ?_ _ | (refine Only.call ?_ ?_; rotate_left; assumption)) | (refine leB ?_; omega)))
          · (repeat' (first | (with_reducible first | assumption | exact Below.refl _ _ | refine Below.drew ?_ | refine below_alloc ?_ ?_ _ | refine below_set ?_ ?_ _) | (refine leB ?_; omega)))
      · skip
        go_wp2_with fail
        refine wp_loop_rounds 5 ?_
        rw [rounds_succ]
        go_wp2_with fail
        refine (frac_any b (q + 1) _ (HR.out _ (by repeat' (first | (with_reducible first | assumption | exact Below.refl _ _ | refine Below.drew ?_ | refine below_alloc ?_ ?_ _ | refine below_set ?_ ?_ _) | (refine leB ?_; omega)))) (by omega)).mono ?_
        rintro e W3 ⟨a1, a2, a3, qr0, rfl, hd, ho, hq0, hr⟩
        have Br : Blk W3 (w.heap.size) [.int .i64 0, .int .i64 0, .int .i64 0, .int .i64 0, .int .i64 0, .int .i64 0, .int .i64 0, .int .i64 0, .int .i64 0, .int .i64 0, .int .i64 0, .int .i64 0] := Blk.keepo ho (neB (by omega)) (by repeat' (first | (with_reducible first | assumption | refine Blk.drew ?_ | refine Blk.drewN ?_ _ | apply Blk.set | (refine Blk.new ?_; focus (first | rfl | (simp; done))) | refine Blk.alloc ?_ _ | refine Blk.other ?_ ?_ _) | exact eqL rfl | (refine neB ?_; omega)))
        have Bo : Blk W3 (W1.heap.size) [.int .i64 0, .int .i64 0, .int .i64 0, .int .i64 0, .int .i64 0, .int .i64 0, .int .i64 0, .int .i64 0, .int .i64 0, .int .i64 0, .int .i64 0, .int .i64 0] := Blk.keepo ho (neB (by omega)) (by repeat' (first | (with_reducible first | assumption | refine Blk.drew ?_ | refine Blk.drewN ?_ _ | apply Blk.set | (refine Blk.new ?_; focus (first | rfl | (simp; done))) | refine Blk.alloc ?_ _ | refine Blk.other ?_ ?_ _) | exact eqL rfl | (refine neB ?_; omega)))
        have cr := Br.cell
        have fr := Br.free
        have lr_W3 := Br.lt
        have co := Bo.cell
        have fo := Bo.free
        have lo_W3 := Bo.lt
        have oaW3 : Only b w W3 := by
          refine Only.trans ?_ ho
          (repeat' (first | (with_reducible first | assumption | exact Only.refl _ _ | refine Only.drew ?_ | refine Only.alloc ?_ _ | refine Only.setCell ?_ ?_ _ | (refine Only.call ?_ ?_; rotate_left; assumption)) | (refine leB ?_; omega)))
        have lsW3 := oaW3.size
        have bwW3 : b < W3.heap.size := hr.1
        have HR := Lib.hid fun W (k : Below (b + 1) W3 W) => hr.keep k
        clear ho hr
        obtain ⟨ha1, ha2, ha3⟩ := drawn_i64 hd
        clear hd
        go_wp2_with fail
        rw [rounds_succ]
        go_wp2_with fail
        refine (frac_any b (qr0) _ (HR.out _ (by repeat' (first | (with_reducible first | assumption | exact Below.refl _ _ | refine Below.drew ?_ | refine below_alloc ?_ ?_ _ | refine below_set ?_ ?_ _) | (refine leB ?_; omega)))) (by omega)).mono ?_
        rintro e W4 ⟨b1, b2, b3, qr1, rfl, hd, ho, hq1, hr⟩
        have Br : Blk W4 (w.heap.size) [.int .i64 0, .int .i64 0, .int .i64 0, .int .i64 0, .int .i64 0, .int .i64 0, .int .i64 0, .int .i64 0, .int .i64 0, .int .i64 0, .int .i64 0, .int .i64 0] := Blk.keepo ho (neB (by omega)) (by repeat' (first | (with_reducible first | assumption | refine Blk.drew ?_ | refine Blk.drewN ?_ _ | apply Blk.set | (refine Blk.new ?_; focus (first | rfl | (simp; done))) | refine Blk.alloc ?_ _ | refine Blk.other ?_ ?_ _) | exact eqL rfl | (refine neB ?_; omega)))
        have Bo : Blk W4 (W1.heap.size) [.int .i64 a1, .int .i64 a2, .int .i64 a3, .int .i64 0, .int .i64 0, .int .i64 0, .int .i64 0, .int .i64 0, .int .i64 0, .int .i64 0, .int .i64 0, .int .i64 0] := Blk.keepo ho (neB (by omega)) (by repeat' (first | (with_reducible first | assumption | refine Blk.drew ?_ | refine Blk.drewN ?_ _ | apply Blk.set | (refine Blk.new ?_; focus (first | rfl | (simp; done))) | refine Blk.alloc ?_ _ | refine Blk.other ?_ ?_ _) | exact eqL rfl | (refine neB ?_; omega)))
        have cr := Br.cell
        have fr := Br.free
        have lr_W4 := Br.lt
        have co := Bo.cell
        have fo := Bo.free
        have lo_W4 := Bo.lt
        have oaW4 : Only b w W4 := by
          refine Only.trans ?_ ho
          (repeat' (first | (with_reducible first | assumption | exact Only.refl _ _ | refine Only.drew ?_ | refine Only.alloc ?_ _ | refine Only.setCell ?_ ?_ _ | (refine Only.call ?_ ?_; rotate_left; assumption)) | (refine leB ?_; omega)))
        have lsW4 := oaW4.size
        have bwW4 : b < W4.heap.size := hr.1
        have HR := Lib.hid fun W (k : Below (b + 1) W4 W) => hr.keep k
        clear ho hr
        obtain ⟨hb1, hb2, hb3⟩ := drawn_i64 hd
        clear hd
        go_wp2_with fail
        rw [rounds_succ]
        go_wp2_with fail
        refine (frac_any b (qr1) _ (HR.out _ (by repeat' (first | (with_reducible first | assumption | exact Below.refl _ _ | refine Below.drew ?_ | refine below_alloc ?_ ?_ _ | refine below_set ?_ ?_ _) | (refine leB ?_; omega)))) (by omega)).mono ?_
        rintro e W5 ⟨c1, c2, c3, qr2, rfl, hd, ho, hq2, hr⟩
        have Br : Blk W5 (w.heap.size) [.int .i64 0, .int .i64 0, .int .i64 0, .int .i64 0, .int .i64 0, .int .i64 0, .int .i64 0, .int .i64 0, .int .i64 0, .int .i64 0, .int .i64 0, .int .i64 0] := Blk.keepo ho (neB (by omega)) (by repeat' (first | (with_reducible first | assumption | refine Blk.drew ?_ | refine Blk.drewN ?_ _ | apply Blk.set | (refine Blk.new ?_; focus (first | rfl | (simp; done))) | refine Blk.alloc ?_ _ | refine Blk.other ?_ ?_ _) | exact eqL rfl | (refine neB ?_; omega)))
        have Bo : Blk W5 (W1.heap.size) [.int .i64 a1, .int .i64 a2, .int .i64 a3, .int .i64 b1, .int .i64 b2, .int .i64 b3, .int .i64 0, .int .i64 0, .int .i64 0, .int .i64 0, .int .i64 0, .int .i64 0] := Blk.keepo ho (neB (by omega)) (by repeat' (first | (with_reducible first | assumption | refine Blk.drew ?_ | refine Blk.drewN ?_ _ | apply Blk.set | (refine Blk.new ?_; focus (first | rfl | (simp; done))) | refine Blk.alloc ?_ _ | refine Blk.other ?_ ?_ _) | exact eqL rfl | (refine neB ?_; omega)))
        have cr := Br.cell
        have fr := Br.free
        have lr_W5 := Br.lt
        have co := Bo.cell
        have fo := Bo.free
        have lo_W5 := Bo.lt
        have oaW5 : Only b w W5 := by
          refine Only.trans ?_ ho
          (repeat' (first | (with_reducible first | assumption | exact Only.refl _ _ | refine Only.drew ?_ | refine Only.alloc ?_ _ | refine Only.setCell ?_ ?_ _ | (refine Only.call ?_ ?_; rotate_left; assumption)) | (refine leB ?_; omega)))
        have lsW5 := oaW5.size
        have bwW5 : b < W5.heap.size := hr.1
        have HR := Lib.hid fun W (k : Below (b + 1) W5 W) => hr.keep k
        clear ho hr
        obtain ⟨hc1, hc2, hc3⟩ := drawn_i64 hd
        clear hd
        go_wp2_with fail
        rw [rounds_succ]
        go_wp2_with fail
        refine (frac_any b (qr2) _ (HR.out _ (by repeat' (first | (with_reducible first | assumption | exact Below.refl _ _ | refine Below.drew ?_ | refine below_alloc ?_ ?_ _ | refine below_set ?_ ?_ _) | (refine leB ?_; omega)))) (by omega)).mono ?_
        rintro e W6 ⟨d1, d2, d3, qr3, rfl, hd, ho, hq3, hr⟩
        have Br : Blk W6 (w.heap.size) [.int .i64 0, .int .i64 0, .int .i64 0, .int .i64 0, .int .i64 0, .int .i64 0, .int .i64 0, .int .i64 0, .int .i64 0, .int .i64 0, .int .i64 0, .int .i64 0] := Blk.keepo ho (neB (by omega)) (by repeat' (first | (with_reducible first | assumption | refine Blk.drew ?_ | refine Blk.drewN ?_ _ | apply Blk.set | (refine Blk.new ?_; focus (first | rfl | (simp; done))) | refine Blk.alloc ?_ _ | refine Blk.other ?_ ?_ _) | exact eqL rfl | (refine neB ?_; omega)))
        have Bo : Blk W6 (W1.heap.size) [.int .i64 a1, .int .i64 a2, .int .i64 a3, .int .i64 b1, .int .i64 b2, .int .i64 b3, .int .i64 c1, .int .i64 c2, .int .i64 c3, .int .i64 0, .int .i64 0, .int .i64 0] := Blk.keepo ho (neB (by omega)) (by repeat' (first | (with_reducible first | assumption | refine Blk.drew ?_ | refine Blk.drewN ?_ _ | apply Blk.set | (refine Blk.new ?_; focus (first | rfl | (simp; done))) | refine Blk.alloc ?_ _ | refine Blk.other ?_ ?_ _) | exact eqL rfl | (refine neB ?_; omega)))
        have cr := Br.cell
        have fr := Br.free
        have lr_W6 := Br.lt
        have co := Bo.cell
        have fo := Bo.free
        have lo_W6 := Bo.lt
        have oaW6 : Only b w W6 := by
          refine Only.trans ?_ ho
          (repeat' (first | (with_reducible first | assumption | exact Only.refl _ _ | refine Only.drew ?_ | refine Only.alloc ?_ _ | refine Only.setCell ?_ ?_ _ | (refine Only.call ?_ ?_; rotate_left; assumption)) | (refine leB ?_; omega)))
        have lsW6 := oaW6.size
        have bwW6 : b < W6.heap.size := hr.1
        have HR := Lib.hid fun W (k : Below (b + 1) W6 W) => hr.keep k
        clear ho hr
        obtain ⟨hd1, hd2, hd3⟩ := drawn_i64 hd
        clear hd
        go_wp2_with fail
        rw [rounds_succ]
        go_wp2_with fail
        refine bodyPost_ret (v := .agg #[.int .i64 a1, .int .i64 a2, .int .i64 a3, .int .i64 b1, .int .i64 b2, .int .i64 b3, .int .i64 c1, .int .i64 c2, .int .i64 c3, .int .i64 d1, .int .i64 d2, .int .i64 d3]) (by simp [results, Tryd.results23, go_sem, *]) rfl (DrewM.mk ((a1, a2, a3), (b1, b2, b3), (c1, c2, c3), (d1, d2, d3)) rfl ⟨⟨ha1, ha2, ha3⟩, ⟨hb1, hb2, hb3⟩, ⟨hc1, hc2, hc3⟩, ⟨hd1, hd2, hd3⟩⟩ (by omega) ?_ (HR.out _ ?_))
        · (repeat' (first | (with_reducible first | assumption | exact Only.refl _ _ | refine Only.drew ?_ | refine Only.alloc ?_ _ | refine Only.setCell ?_ ?_ _ | (refine Only.call ?_ ?_; rotate_left; assumption)) | (refine leB ?_; omega)))
        · (repeat' (first | (with_reducible first | assumption | exact Below.refl _ _ | refine Below.drew ?_ | refine below_alloc ?_ ?_ _ | refine below_set ?_ ?_ _) | (refine leB ?_; omega)))

/-- Two drawn matrices. -/
def DrewMM (w : World) (e : Ending) (w' : World) : Prop := ∃ x y : F4, e = .returned (.tuple #[.agg #[.int .i64 x.1.1, .int .i64 x.1.2.1, .int .i64 x.1.2.2, .int .i64 x.2.1.1, .int .i64 x.2.1.2.1, .int .i64 x.2.1.2.2, .int .i64 x.2.2.1.1, .int .i64 x.2.2.1.2.1, .int .i64 x.2.2.1.2.2, .int .i64 x.2.2.2.1, .int .i64 x.2.2.2.2.1, .int .i64 x.2.2.2.2.2], .agg #[.int .i64 y.1.1, .int .i64 y.1.2.1, .int .i64 y.1.2.2, .int .i64 y.2.1.1, .int .i64 y.2.1.2.1, .int .i64 y.2.1.2.2, .int .i64 y.2.2.1.1, .int .i64 y.2.2.1.2.1, .int .i64 y.2.2.1.2.2, .int .i64 y.2.2.2.1, .int .i64 y.2.2.2.2.1, .int .i64 y.2.2.2.2.2]]) ∧ i64M x ∧ i64M y ∧ Below w.heap.size w w'
end Go.Proofs.YtjmhkkdeljbjpaaDoor
