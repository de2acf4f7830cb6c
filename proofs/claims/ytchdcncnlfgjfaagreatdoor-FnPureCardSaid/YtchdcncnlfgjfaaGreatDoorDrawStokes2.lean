/-
  The draws of the laws of four numbers.
-/
import Derived.Test.YtchdcncnlfgjfaaGreatDoorDrawStokes
import Derived.Deep.RegionHeld3
namespace Go.Proofs.YtchdcncnlfgjfaaGreatDoor
open Go.ChangeShapes Go.WideShapes Go.ChangeAt Go.RowKit
set_option linter.unusedVariables false

/-- Drawn four numbers. -/
def DrewS1 (w : World) (e : Ending) (w' : World) : Prop := ∃ a1 a2 a3 b1 b2 b3 c1 c2 c3 d1 d2 d3 : Int, e = .returned (.agg #[.int .i64 a1, .int .i64 a2, .int .i64 a3, .int .i64 b1, .int .i64 b2, .int .i64 b3, .int .i64 c1, .int .i64 c2, .int .i64 c3, .int .i64 d1, .int .i64 d2, .int .i64 d3]) ∧ (i64B a1 ∧ i64B a2 ∧ i64B a3 ∧ i64B b1 ∧ i64B b2 ∧ i64B b3 ∧ i64B c1 ∧ i64B c2 ∧ i64B c3 ∧ i64B d1 ∧ i64B d2 ∧ i64B d3) ∧ Below w.heap.size w w'
/-- Drawn four and four numbers. -/
def DrewSS (w : World) (e : Ending) (w' : World) : Prop := ∃ a1 a2 a3 b1 b2 b3 c1 c2 c3 d1 d2 d3 i1 i2 i3 j1 j2 j3 k1 k2 k3 l1 l2 l3 : Int, e = .returned (.tuple #[.agg #[.int .i64 a1, .int .i64 a2, .int .i64 a3, .int .i64 b1, .int .i64 b2, .int .i64 b3, .int .i64 c1, .int .i64 c2, .int .i64 c3, .int .i64 d1, .int .i64 d2, .int .i64 d3], .agg #[.int .i64 i1, .int .i64 i2, .int .i64 i3, .int .i64 j1, .int .i64 j2, .int .i64 j3, .int .i64 k1, .int .i64 k2, .int .i64 k3, .int .i64 l1, .int .i64 l2, .int .i64 l3]]) ∧ (i64B a1 ∧ i64B a2 ∧ i64B a3 ∧ i64B b1 ∧ i64B b2 ∧ i64B b3 ∧ i64B c1 ∧ i64B c2 ∧ i64B c3 ∧ i64B d1 ∧ i64B d2 ∧ i64B d3) ∧ (i64B i1 ∧ i64B i2 ∧ i64B i3 ∧ i64B j1 ∧ i64B j2 ∧ i64B j3 ∧ i64B k1 ∧ i64B k2 ∧ i64B k3 ∧ i64B l1 ∧ i64B l2 ∧ i64B l3) ∧ Below w.heap.size w w'
/-- Drawn four numbers and a drawn fraction. -/
def DrewSF (w : World) (e : Ending) (w' : World) : Prop := ∃ a1 a2 a3 b1 b2 b3 c1 c2 c3 d1 d2 d3 q1 q2 q3 : Int, e = .returned (.tuple #[.agg #[.int .i64 a1, .int .i64 a2, .int .i64 a3, .int .i64 b1, .int .i64 b2, .int .i64 b3, .int .i64 c1, .int .i64 c2, .int .i64 c3, .int .i64 d1, .int .i64 d2, .int .i64 d3], .agg #[.int .i64 q1, .int .i64 q2, .int .i64 q3]]) ∧ (i64B a1 ∧ i64B a2 ∧ i64B a3 ∧ i64B b1 ∧ i64B b2 ∧ i64B b3 ∧ i64B c1 ∧ i64B c2 ∧ i64B c3 ∧ i64B d1 ∧ i64B d2 ∧ i64B d3) ∧ (i64B q1 ∧ i64B q2 ∧ i64B q3) ∧ Below w.heap.size w w'
set_option maxHeartbeats 2000000 in
theorem drawStokesPure_any (a : Option Addr) (len cap : Nat) (w : World) (h : Code8 w a len cap) :
    Calls Tryz.prog 4 #[.slice a len cap] w (DrewS1 w) := by
  have H0 := Lib.hid (h.alloc (.cells #[.int .i64 0, .int .i64 0, .int .i64 0, .int .i64 0, .int .i64 0, .int .i64 0, .int .i64 0, .int .i64 0, .int .i64 0, .int .i64 0, .int .i64 0, .int .i64 0] 27))
  clear h
  go_enter Tryz.func4, Tryz.ntmps4
  go_wp2_with fail
  refine (open_any a len cap _ H0.out).mono ?_
  rintro e W1 ⟨b, rfl, hb1, bel, hr⟩
  have Br : Blk W1 (w.heap.size) [.int .i64 0, .int .i64 0, .int .i64 0, .int .i64 0, .int .i64 0, .int .i64 0, .int .i64 0, .int .i64 0, .int .i64 0, .int .i64 0, .int .i64 0, .int .i64 0] := Blk.keep bel (by repeat' (first | (with_reducible first | assumption | refine Blk.drew ?_ | refine Blk.drewN ?_ _ | apply Blk.set | (refine Blk.new ?_; focus (first | rfl | (simp; done))) | refine Blk.alloc ?_ _ | refine Blk.other ?_ ?_ _) | exact eqL rfl | (refine neB ?_; omega)))
  have cr := Br.cell
  have fr := Br.free
  have lr_W1 := Br.lt
  have kaW1 : Acc w W1 := by
    refine Acc.call ?_ bel
    (repeat' (first | (with_reducible first | assumption | exact Acc.refl _ | refine Acc.drew ?_ | refine Acc.drewN ?_ _ | refine Acc.alloc ?_ _ | refine Acc.setCell ?_ ?_ _) | (refine leB ?_; omega)))
  have lsW1 := kaW1.size
  have hb2 : w.heap.size < b := by
    simp at hb1
    omega
  have bwW1 := hr.1
  have HR := Lib.hid fun W (k : Below (b + 1) W1 W) => hr.keep k
  clear hb1 bel hr H0
  go_wp2_with fail
  refine (stokes_any b 0 _ (HR.out _ (by repeat' (first | (with_reducible first | assumption | exact Below.refl _ _ | refine Below.drew ?_ | refine below_alloc ?_ ?_ _ | refine below_set ?_ ?_ _) | (refine leB ?_; omega)))) (by omega)).mono ?_
  rintro e W2 ⟨a1, a2, a3, b1, b2, b3, c1, c2, c3, d1, d2, d3, q, rfl, ⟨ha1, ha2, ha3, hb1, hb2, hb3, hc1, hc2, hc3, hd1, hd2, hd3⟩, hq, ho, hr⟩
  have Br : Blk W2 (w.heap.size) [.int .i64 0, .int .i64 0, .int .i64 0, .int .i64 0, .int .i64 0, .int .i64 0, .int .i64 0, .int .i64 0, .int .i64 0, .int .i64 0, .int .i64 0, .int .i64 0] := Blk.keepo ho (neB (by omega)) (by repeat' (first | (with_reducible first | assumption | refine Blk.drew ?_ | refine Blk.drewN ?_ _ | apply Blk.set | (refine Blk.new ?_; focus (first | rfl | (simp; done))) | refine Blk.alloc ?_ _ | refine Blk.other ?_ ?_ _) | exact eqL rfl | (refine neB ?_; omega)))
  have cr := Br.cell
  have fr := Br.free
  have lr_W2 := Br.lt
  have kaW2 : Acc w W2 := by
    refine Below.trans (b := _) ?_ (ho.below ?_ (by omega))
    · show Acc w _
      (repeat' (first | (with_reducible first | assumption | exact Acc.refl _ | refine Acc.drew ?_ | refine Acc.drewN ?_ _ | refine Acc.alloc ?_ _ | refine Acc.setCell ?_ ?_ _) | (refine leB ?_; omega)))
    · (refine Nat.le_trans ?_ (Nat.le_of_lt_succ (Nat.lt_succ_of_le (Nat.le_refl _))); (first | omega | (simp; omega)))
  have lsW2 := kaW2.size
  have bwW2 : b < W2.heap.size := hr.1
  have HR := Lib.hid fun W (k : Below (b + 1) W2 W) => hr.keep k
  clear ho hr
  go_wp2_with fail
  refine bodyPost_ret (v := .agg #[.int .i64 a1, .int .i64 a2, .int .i64 a3, .int .i64 b1, .int .i64 b2, .int .i64 b3, .int .i64 c1, .int .i64 c2, .int .i64 c3, .int .i64 d1, .int .i64 d2, .int .i64 d3]) (by simp [results, Tryz.results4, go_sem, *]) rfl ⟨a1, a2, a3, b1, b2, b3, c1, c2, c3, d1, d2, d3, rfl, ⟨ha1, ha2, ha3, hb1, hb2, hb3, hc1, hc2, hc3, hd1, hd2, hd3⟩, ?_⟩
  show Acc w _
  (repeat' (first | (with_reducible first | assumption | exact Acc.refl _ | refine Acc.drew ?_ | refine Acc.drewN ?_ _ | refine Acc.alloc ?_ _ | refine Acc.setCell ?_ ?_ _) | (refine leB ?_; omega)))
end Go.Proofs.YtchdcncnlfgjfaaGreatDoor
