/-
  The program's vectors.
-/
import Derived.Test.YtkdkeacfifjjoaaGreatDoorBMem
import Derived.Test.YtkdkeacfifjjoaaGreatDoorBImplF
import Derived.Test.YtkdkeacfifjjoaaGreatDoorBSpecV
import Derived.Deep.RegionWith
import Derived.Test.YtkdkeacfifjjoaaGreatDoorBSpecF
import Derived.Test.YtkdkeacfifjjoaaGreatDoorEqVec
import Derived.Deep.RegionHeld3
import Derived.BigQuiet
namespace Go.Proofs.YtkdkeacfifjjoaaGreatDoor
open Go.ChangeShapes Go.WideShapes Go.ChangeAt Go.RowKit
set_option linter.unusedVariables false

/-- A vector and no error, or the zero value and an error. -/
def Erred6 (o : Option ((Int × Int × Int) × (Int × Int × Int))) (w : World) (e : Ending) (w' : World) : Prop :=
  (∀ u1 u2 u3 v1 v2 v3, o = some ((u1, u2, u3), (v1, v2, v3)) → e = .returned (.tuple #[.agg #[.int .i64 u1, .int .i64 u2, .int .i64 u3, .int .i64 v1, .int .i64 v2, .int .i64 v3], .nilIface])) ∧ (o = none → ∃ s, e = .returned (.tuple #[.agg #[.int .i64 0, .int .i64 0, .int .i64 0, .int .i64 0, .int .i64 0, .int .i64 0], .iface 128 (.agg #[.string s])])) ∧ Below w.heap.size w w'
theorem vectorOf_any (x1 x2 x3 y1 y2 y3 : Int) (w : World) :
    Calls Tryz.prog 41 #[.agg #[.int .i64 x1, .int .i64 x2, .int .i64 x3, .int .i64 y1, .int .i64 y2, .int .i64 y3]] w fun e w' => e = .returned (.agg #[.int .i64 x1, .int .i64 x2, .int .i64 x3, .int .i64 y1, .int .i64 y2, .int .i64 y3]) ∧ Below w.heap.size w w' := by
  go_enter Tryz.func41, Tryz.ntmps41
  go_wp2_with fail
  refine bodyPost_ret (v := .agg #[.int .i64 x1, .int .i64 x2, .int .i64 x3, .int .i64 y1, .int .i64 y2, .int .i64 y3]) (by simp [results, Tryz.results41, go_sem]) rfl ⟨rfl, ?_⟩
  show Acc w _
  (repeat' (first | (with_reducible first | assumption | exact Acc.refl _ | refine Acc.drew ?_ | refine Acc.drewN ?_ _ | refine Acc.alloc ?_ _ | refine Acc.setCell ?_ ?_ _) | (refine leB ?_; omega)))
set_option maxHeartbeats 1000000 in
theorem toldVec_ok (x1 x2 x3 y1 y2 y3 : Int) (w : World) : Calls Tryz.prog 73 #[.agg #[.int .i64 x1, .int .i64 x2, .int .i64 x3, .int .i64 y1, .int .i64 y2, .int .i64 y3], .nilIface] w fun e w' => e = .returned (.tuple #[.agg #[.int .i64 x1, .int .i64 x2, .int .i64 x3, .int .i64 y1, .int .i64 y2, .int .i64 y3], .bool true]) ∧ Below w.heap.size w w' := by
  go_enter Tryz.func73, Tryz.ntmps73
  go_wp2_with fail
  refine (isNone_nil _).mono ?_
  rintro e W1 ⟨rfl, hb⟩
  obtain ⟨B0, Br⟩ : Blk W1 (w.heap.size) [.int .i64 x1, .int .i64 x2, .int .i64 x3, .int .i64 y1, .int .i64 y2, .int .i64 y3] ∧ Blk W1 (w.heap.size + 1) [.int .i64 0, .int .i64 0, .int .i64 0, .int .i64 0, .int .i64 0, .int .i64 0] := by
    refine ⟨?_, ?_⟩ <;> refine Blk.keep hb ?_ <;> (repeat' (first | (with_reducible first | assumption | refine Blk.drew ?_ | refine Blk.drewN ?_ _ | apply Blk.set | (refine Blk.new ?_; focus (first | rfl | (simp; done))) | refine Blk.alloc ?_ _ | refine Blk.other ?_ ?_ _) | exact eqL rfl | (refine neB ?_; omega)))
  have c0 := B0.cell
  have f0 := B0.free
  have l0_W1 := B0.lt
  have cr := Br.cell
  have fr := Br.free
  have lr_W1 := Br.lt
  have kaW1 : Acc w W1 := by
    refine Acc.call ?_ hb
    (repeat' (first | (with_reducible first | assumption | exact Acc.refl _ | refine Acc.drew ?_ | refine Acc.drewN ?_ _ | refine Acc.alloc ?_ _ | refine Acc.setCell ?_ ?_ _) | (refine leB ?_; omega)))
  clear hb
  go_wp2_with fail
  refine bodyPost_ret (v := .tuple #[.agg #[.int .i64 x1, .int .i64 x2, .int .i64 x3, .int .i64 y1, .int .i64 y2, .int .i64 y3], .bool true]) (by simp [results, Tryz.results73, go_sem, *]) rfl ⟨rfl, ?_⟩
  show Acc w _
  (repeat' (first | (with_reducible first | assumption | exact Acc.refl _ | refine Acc.drew ?_ | refine Acc.drewN ?_ _ | refine Acc.alloc ?_ _ | refine Acc.setCell ?_ ?_ _) | (refine leB ?_; omega)))
set_option maxHeartbeats 1000000 in
theorem toldVec_err (x1 x2 x3 y1 y2 y3 : Int) (s : ByteArray) (w : World) (hl : Laid w) : Calls Tryz.prog 73 #[.agg #[.int .i64 x1, .int .i64 x2, .int .i64 x3, .int .i64 y1, .int .i64 y2, .int .i64 y3], .iface 128 (.agg #[.string s])] w fun e w' => e = .returned (.tuple #[.agg #[.int .i64 0, .int .i64 0, .int .i64 0, .int .i64 0, .int .i64 0, .int .i64 0], .bool false]) ∧ Below w.heap.size w w' := by
  have HL := Lib.hid fun W (k : Acc w W) => hl.acc k
  clear hl
  go_enter Tryz.func73, Tryz.ntmps73
  go_wp2_with fail
  refine (isNone_hit s _ (HL.out _ (by repeat' (first | (with_reducible first | assumption | exact Acc.refl _ | refine Acc.drew ?_ | refine Acc.drewN ?_ _ | refine Acc.alloc ?_ _ | refine Acc.setCell ?_ ?_ _) | (refine leB ?_; omega))))).mono ?_
  rintro e W1 ⟨rfl, hb⟩
  obtain ⟨B0, Br⟩ : Blk W1 (w.heap.size) [.int .i64 x1, .int .i64 x2, .int .i64 x3, .int .i64 y1, .int .i64 y2, .int .i64 y3] ∧ Blk W1 (w.heap.size + 1) [.int .i64 0, .int .i64 0, .int .i64 0, .int .i64 0, .int .i64 0, .int .i64 0] := by
    refine ⟨?_, ?_⟩ <;> refine Blk.keep hb ?_ <;> (repeat' (first | (with_reducible first | assumption | refine Blk.drew ?_ | refine Blk.drewN ?_ _ | apply Blk.set | (refine Blk.new ?_; focus (first | rfl | (simp; done))) | refine Blk.alloc ?_ _ | refine Blk.other ?_ ?_ _) | exact eqL rfl | (refine neB ?_; omega)))
  have c0 := B0.cell
  have f0 := B0.free
  have l0_W1 := B0.lt
  have cr := Br.cell
  have fr := Br.free
  have lr_W1 := Br.lt
  have kaW1 : Acc w W1 := by
    refine Acc.call ?_ hb
    (repeat' (first | (with_reducible first | assumption | exact Acc.refl _ | refine Acc.drew ?_ | refine Acc.drewN ?_ _ | refine Acc.alloc ?_ _ | refine Acc.setCell ?_ ?_ _) | (refine leB ?_; omega)))
  clear hb
  go_wp2_with fail
  refine bodyPost_ret (v := .tuple #[.agg #[.int .i64 0, .int .i64 0, .int .i64 0, .int .i64 0, .int .i64 0, .int .i64 0], .bool false]) (by simp [results, Tryz.results73, go_sem, *]) rfl ⟨rfl, ?_⟩
  show Acc w _
  (repeat' (first | (with_reducible first | assumption | exact Acc.refl _ | refine Acc.drew ?_ | refine Acc.drewN ?_ _ | refine Acc.alloc ?_ _ | refine Acc.setCell ?_ ?_ _) | (refine leB ?_; omega)))
set_option maxHeartbeats 1000000 in
theorem toldVector_ok (x1 x2 x3 y1 y2 y3 : Int) (w : World) : Calls Tryz.prog 37 #[.agg #[.int .i64 x1, .int .i64 x2, .int .i64 x3, .int .i64 y1, .int .i64 y2, .int .i64 y3], .nilIface] w fun e w' => e = .returned (.tuple #[.agg #[.int .i64 x1, .int .i64 x2, .int .i64 x3, .int .i64 y1, .int .i64 y2, .int .i64 y3], .bool true]) ∧ Below w.heap.size w w' := by
  go_enter Tryz.func37, Tryz.ntmps37
  go_wp2_with fail
  refine (toldVec_ok x1 x2 x3 y1 y2 y3 _).mono ?_
  rintro e W1 ⟨rfl, hb⟩
  obtain ⟨B0, Br⟩ : Blk W1 (w.heap.size) [.int .i64 x1, .int .i64 x2, .int .i64 x3, .int .i64 y1, .int .i64 y2, .int .i64 y3] ∧ Blk W1 (w.heap.size + 1) [.int .i64 0, .int .i64 0, .int .i64 0, .int .i64 0, .int .i64 0, .int .i64 0] := by
    refine ⟨?_, ?_⟩ <;> refine Blk.keep hb ?_ <;> (repeat' (first | (with_reducible first | assumption | refine Blk.drew ?_ | refine Blk.drewN ?_ _ | apply Blk.set | (refine Blk.new ?_; focus (first | rfl | (simp; done))) | refine Blk.alloc ?_ _ | refine Blk.other ?_ ?_ _) | exact eqL rfl | (refine neB ?_; omega)))
  have c0 := B0.cell
  have f0 := B0.free
  have l0_W1 := B0.lt
  have cr := Br.cell
  have fr := Br.free
  have lr_W1 := Br.lt
  have kaW1 : Acc w W1 := by
    refine Acc.call ?_ hb
    (repeat' (first | (with_reducible first | assumption | exact Acc.refl _ | refine Acc.drew ?_ | refine Acc.drewN ?_ _ | refine Acc.alloc ?_ _ | refine Acc.setCell ?_ ?_ _) | (refine leB ?_; omega)))
  clear hb
  go_wp2_with fail
  refine bodyPost_ret (v := .tuple #[.agg #[.int .i64 x1, .int .i64 x2, .int .i64 x3, .int .i64 y1, .int .i64 y2, .int .i64 y3], .bool true]) (by simp [results, Tryz.results37, go_sem, *]) rfl ⟨rfl, ?_⟩
  show Acc w _
  (repeat' (first | (with_reducible first | assumption | exact Acc.refl _ | refine Acc.drew ?_ | refine Acc.drewN ?_ _ | refine Acc.alloc ?_ _ | refine Acc.setCell ?_ ?_ _) | (refine leB ?_; omega)))
set_option maxHeartbeats 1000000 in
theorem toldVector_err (x1 x2 x3 y1 y2 y3 : Int) (s : ByteArray) (w : World) (hl : Laid w) : Calls Tryz.prog 37 #[.agg #[.int .i64 x1, .int .i64 x2, .int .i64 x3, .int .i64 y1, .int .i64 y2, .int .i64 y3], .iface 128 (.agg #[.string s])] w fun e w' => e = .returned (.tuple #[.agg #[.int .i64 0, .int .i64 0, .int .i64 0, .int .i64 0, .int .i64 0, .int .i64 0], .bool false]) ∧ Below w.heap.size w w' := by
  have HL := Lib.hid fun W (k : Acc w W) => hl.acc k
  clear hl
  go_enter Tryz.func37, Tryz.ntmps37
  go_wp2_with fail
  refine (toldVec_err x1 x2 x3 y1 y2 y3 s _ (HL.out _ (by repeat' (first | (with_reducible first | assumption | exact Acc.refl _ | refine Acc.drew ?_ | refine Acc.drewN ?_ _ | refine Acc.alloc ?_ _ | refine Acc.setCell ?_ ?_ _) | (refine leB ?_; omega))))).mono ?_
  rintro e W1 ⟨rfl, hb⟩
  obtain ⟨B0, Br⟩ : Blk W1 (w.heap.size) [.int .i64 x1, .int .i64 x2, .int .i64 x3, .int .i64 y1, .int .i64 y2, .int .i64 y3] ∧ Blk W1 (w.heap.size + 1) [.int .i64 0, .int .i64 0, .int .i64 0, .int .i64 0, .int .i64 0, .int .i64 0] := by
    refine ⟨?_, ?_⟩ <;> refine Blk.keep hb ?_ <;> (repeat' (first | (with_reducible first | assumption | refine Blk.drew ?_ | refine Blk.drewN ?_ _ | apply Blk.set | (refine Blk.new ?_; focus (first | rfl | (simp; done))) | refine Blk.alloc ?_ _ | refine Blk.other ?_ ?_ _) | exact eqL rfl | (refine neB ?_; omega)))
  have c0 := B0.cell
  have f0 := B0.free
  have l0_W1 := B0.lt
  have cr := Br.cell
  have fr := Br.free
  have lr_W1 := Br.lt
  have kaW1 : Acc w W1 := by
    refine Acc.call ?_ hb
    (repeat' (first | (with_reducible first | assumption | exact Acc.refl _ | refine Acc.drew ?_ | refine Acc.drewN ?_ _ | refine Acc.alloc ?_ _ | refine Acc.setCell ?_ ?_ _) | (refine leB ?_; omega)))
  clear hb
  go_wp2_with fail
  refine bodyPost_ret (v := .tuple #[.agg #[.int .i64 0, .int .i64 0, .int .i64 0, .int .i64 0, .int .i64 0, .int .i64 0], .bool false]) (by simp [results, Tryz.results37, go_sem, *]) rfl ⟨rfl, ?_⟩
  show Acc w _
  (repeat' (first | (with_reducible first | assumption | exact Acc.refl _ | refine Acc.drew ?_ | refine Acc.drewN ?_ _ | refine Acc.alloc ?_ _ | refine Acc.setCell ?_ ?_ _) | (refine leB ?_; omega)))

set_option maxHeartbeats 1000000 in
theorem powersClo_0 (b : Nat) (x1 x2 x3 y1 y2 y3 : Int) (hx1 : i64B x1) (hx2 : i64B x2) (hx3 : i64B x3) (hy1 : i64B y1) (hy2 : i64B y2) (hy3 : i64B y3) (w : World) (Bb : Blk w b [.int .i64 x1, .int .i64 x2, .int .i64 x3, .int .i64 y1, .int .i64 y2, .int .i64 y3]) :
    Calls Tryz.prog 98 #[.int .i64 0, .pointer (some ⟨b, 0, none⟩)] w (Erred (powerF x1 x2 x3) w) := by
  have cb := Bb.cell
  have fb := Bb.free
  have lb_w := Bb.lt
  cases ho : powerF x1 x2 x3 with
  | none =>
    have D := Lib.hid fun w => (mpower_any x1 x2 x3 w hx1 hx2 hx3).mono fun e w' h => And.intro (h.2.1 ho) h.2.2
    clear ho
    go_enter Tryz.func98, Tryz.ntmps98
    go_wp2_with fail
    refine (D.out _).mono ?_
    rintro e W1 ⟨⟨s, rfl⟩, hb⟩
    have Br : Blk W1 (w.heap.size) [.int .i64 0, .int .i64 0, .int .i64 0] := Blk.keep hb (by repeat' (first | (with_reducible first | assumption | refine Blk.drew ?_ | refine Blk.drewN ?_ _ | apply Blk.set | (refine Blk.new ?_; focus (first | rfl | (simp; done))) | refine Blk.alloc ?_ _ | refine Blk.other ?_ ?_ _) | exact eqL rfl | (refine neB ?_; omega)))
    have cr := Br.cell
    have fr := Br.free
    have lr_W1 := Br.lt
    have kaW1 : Acc w W1 := by
      refine Acc.call ?_ hb
      (repeat' (first | (with_reducible first | assumption | exact Acc.refl _ | refine Acc.drew ?_ | refine Acc.drewN ?_ _ | refine Acc.alloc ?_ _ | refine Acc.setCell ?_ ?_ _) | (refine leB ?_; omega)))
    clear hb
    go_wp2_with fail
    refine bodyPost_ret (v := .tuple #[.agg #[.int .i64 0, .int .i64 0, .int .i64 0], .iface 128 (.agg #[.string s])]) (by simp [results, Tryz.results98, go_sem, *]) rfl ⟨fun _ _ _ h => (by cases h), fun _ => ⟨_, rfl⟩, ?_⟩
    show Acc w _
    (repeat' (first | (with_reducible first | assumption | exact Acc.refl _ | refine Acc.drew ?_ | refine Acc.drewN ?_ _ | refine Acc.alloc ?_ _ | refine Acc.setCell ?_ ?_ _) | (refine leB ?_; omega)))
  | some v =>
    obtain ⟨p, q, r⟩ := v
    have D := Lib.hid fun w => (mpower_any x1 x2 x3 w hx1 hx2 hx3).mono fun e w' h => And.intro (h.1 _ _ _ ho) h.2.2
    clear ho
    go_enter Tryz.func98, Tryz.ntmps98
    go_wp2_with fail
    refine (D.out _).mono ?_
    rintro e W1 ⟨rfl, hb⟩
    have Br : Blk W1 (w.heap.size) [.int .i64 0, .int .i64 0, .int .i64 0] := Blk.keep hb (by repeat' (first | (with_reducible first | assumption | refine Blk.drew ?_ | refine Blk.drewN ?_ _ | apply Blk.set | (refine Blk.new ?_; focus (first | rfl | (simp; done))) | refine Blk.alloc ?_ _ | refine Blk.other ?_ ?_ _) | exact eqL rfl | (refine neB ?_; omega)))
    have cr := Br.cell
    have fr := Br.free
    have lr_W1 := Br.lt
    have kaW1 : Acc w W1 := by
      refine Acc.call ?_ hb
      (repeat' (first | (with_reducible first | assumption | exact Acc.refl _ | refine Acc.drew ?_ | refine Acc.drewN ?_ _ | refine Acc.alloc ?_ _ | refine Acc.setCell ?_ ?_ _) | (refine leB ?_; omega)))
    clear hb
    go_wp2_with fail
    refine bodyPost_ret (v := .tuple #[.agg #[.int .i64 p, .int .i64 q, .int .i64 r], .nilIface]) (by simp [results, Tryz.results98, go_sem, *]) rfl ⟨fun _ _ _ h => (by cases h; rfl), fun h => (by cases h), ?_⟩
    show Acc w _
    (repeat' (first | (with_reducible first | assumption | exact Acc.refl _ | refine Acc.drew ?_ | refine Acc.drewN ?_ _ | refine Acc.alloc ?_ _ | refine Acc.setCell ?_ ?_ _) | (refine leB ?_; omega)))
set_option maxHeartbeats 1000000 in
theorem powersClo_1 (b : Nat) (x1 x2 x3 y1 y2 y3 : Int) (hx1 : i64B x1) (hx2 : i64B x2) (hx3 : i64B x3) (hy1 : i64B y1) (hy2 : i64B y2) (hy3 : i64B y3) (w : World) (Bb : Blk w b [.int .i64 x1, .int .i64 x2, .int .i64 x3, .int .i64 y1, .int .i64 y2, .int .i64 y3]) :
    Calls Tryz.prog 98 #[.int .i64 1, .pointer (some ⟨b, 0, none⟩)] w (Erred (powerF y1 y2 y3) w) := by
  have cb := Bb.cell
  have fb := Bb.free
  have lb_w := Bb.lt
  cases ho : powerF y1 y2 y3 with
  | none =>
    have D := Lib.hid fun w => (mpower_any y1 y2 y3 w hy1 hy2 hy3).mono fun e w' h => And.intro (h.2.1 ho) h.2.2
    clear ho
    go_enter Tryz.func98, Tryz.ntmps98
    go_wp2_with fail
    refine (D.out _).mono ?_
    rintro e W1 ⟨⟨s, rfl⟩, hb⟩
    have Br : Blk W1 (w.heap.size) [.int .i64 0, .int .i64 0, .int .i64 0] := Blk.keep hb (by repeat' (first | (with_reducible first | assumption | refine Blk.drew ?_ | refine Blk.drewN ?_ _ | apply Blk.set | (refine Blk.new ?_; focus (first | rfl | (simp; done))) | refine Blk.alloc ?_ _ | refine Blk.other ?_ ?_ _) | exact eqL rfl | (refine neB ?_; omega)))
    have cr := Br.cell
    have fr := Br.free
    have lr_W1 := Br.lt
    have kaW1 : Acc w W1 := by
      refine Acc.call ?_ hb
      (repeat' (first | (with_reducible first | assumption | exact Acc.refl _ | refine Acc.drew ?_ | refine Acc.drewN ?_ _ | refine Acc.alloc ?_ _ | refine Acc.setCell ?_ ?_ _) | (refine leB ?_; omega)))
    clear hb
    go_wp2_with fail
    refine bodyPost_ret (v := .tuple #[.agg #[.int .i64 0, .int .i64 0, .int .i64 0], .iface 128 (.agg #[.string s])]) (by simp [results, Tryz.results98, go_sem, *]) rfl ⟨fun _ _ _ h => (by cases h), fun _ => ⟨_, rfl⟩, ?_⟩
    show Acc w _
    (repeat' (first | (with_reducible first | assumption | exact Acc.refl _ | refine Acc.drew ?_ | refine Acc.drewN ?_ _ | refine Acc.alloc ?_ _ | refine Acc.setCell ?_ ?_ _) | (refine leB ?_; omega)))
  | some v =>
    obtain ⟨p, q, r⟩ := v
    have D := Lib.hid fun w => (mpower_any y1 y2 y3 w hy1 hy2 hy3).mono fun e w' h => And.intro (h.1 _ _ _ ho) h.2.2
    clear ho
    go_enter Tryz.func98, Tryz.ntmps98
    go_wp2_with fail
    refine (D.out _).mono ?_
    rintro e W1 ⟨rfl, hb⟩
    have Br : Blk W1 (w.heap.size) [.int .i64 0, .int .i64 0, .int .i64 0] := Blk.keep hb (by repeat' (first | (with_reducible first | assumption | refine Blk.drew ?_ | refine Blk.drewN ?_ _ | apply Blk.set | (refine Blk.new ?_; focus (first | rfl | (simp; done))) | refine Blk.alloc ?_ _ | refine Blk.other ?_ ?_ _) | exact eqL rfl | (refine neB ?_; omega)))
    have cr := Br.cell
    have fr := Br.free
    have lr_W1 := Br.lt
    have kaW1 : Acc w W1 := by
      refine Acc.call ?_ hb
      (repeat' (first | (with_reducible first | assumption | exact Acc.refl _ | refine Acc.drew ?_ | refine Acc.drewN ?_ _ | refine Acc.alloc ?_ _ | refine Acc.setCell ?_ ?_ _) | (refine leB ?_; omega)))
    clear hb
    go_wp2_with fail
    refine bodyPost_ret (v := .tuple #[.agg #[.int .i64 p, .int .i64 q, .int .i64 r], .nilIface]) (by simp [results, Tryz.results98, go_sem, *]) rfl ⟨fun _ _ _ h => (by cases h; rfl), fun h => (by cases h), ?_⟩
    show Acc w _
    (repeat' (first | (with_reducible first | assumption | exact Acc.refl _ | refine Acc.drew ?_ | refine Acc.drewN ?_ _ | refine Acc.alloc ?_ _ | refine Acc.setCell ?_ ?_ _) | (refine leB ?_; omega)))
set_option maxHeartbeats 2000000 in
theorem both_powers (b : Nat) (o p : Option (Int × Int × Int)) (w : World)
    (K : ∀ W, Acc w W → Calls Tryz.prog 98 #[.int .i64 0, .pointer (some ⟨b, 0, none⟩)] W (Erred o W)) (L : ∀ W, Acc w W → Calls Tryz.prog 98 #[.int .i64 1, .pointer (some ⟨b, 0, none⟩)] W (Erred p W)) :
    Calls Tryz.prog 95 #[.func (.func 98) #[] #[.pointer (some ⟨b, 0, none⟩)]] w (Erred6 (pairO o p) w) := by
  have HK := Lib.hid K
  have HL := Lib.hid L
  clear K L
  cases o with
  | none =>
    rw [show pairO none p = none by simp [pairO, okR]]
    go_enter Tryz.func95, Tryz.ntmps95
    go_wp2_with fail
    refine wp_loop_rounds 3 ?_
    rw [rounds_succ]
    go_wp2_with fail
    refine (HK.out _ (by repeat' (first | (with_reducible first | assumption | exact Acc.refl _ | refine Acc.drew ?_ | refine Acc.drewN ?_ _ | refine Acc.alloc ?_ _ | refine Acc.setCell ?_ ?_ _) | (refine leB ?_; omega)))).mono ?_
    rintro e W1 ⟨-, h, hb⟩
    obtain ⟨s, rfl⟩ := h rfl
    clear h
    obtain ⟨Br, Bp⟩ : Blk W1 (w.heap.size) [.int .i64 0, .int .i64 0, .int .i64 0, .int .i64 0, .int .i64 0, .int .i64 0] ∧ Blk W1 (w.heap.size + 1) [.int .i64 0, .int .i64 0, .int .i64 0, .int .i64 0, .int .i64 0, .int .i64 0] := by
      refine ⟨?_, ?_⟩ <;> refine Blk.keep hb ?_ <;> (repeat' (first | (with_reducible first | assumption | refine Blk.drew ?_ | refine Blk.drewN ?_ _ | apply Blk.set | (refine Blk.new ?_; focus (first | rfl | (simp; done))) | refine Blk.alloc ?_ _ | refine Blk.other ?_ ?_ _) | exact eqL rfl | (refine neB ?_; omega)))
    have cr := Br.cell
    have fr := Br.free
    have lr_W1 := Br.lt
    have cp := Bp.cell
    have fp := Bp.free
    have lp_W1 := Bp.lt
    have kaW1 : Acc w W1 := by
      refine Acc.call ?_ hb
      (repeat' (first | (with_reducible first | assumption | exact Acc.refl _ | refine Acc.drew ?_ | refine Acc.drewN ?_ _ | refine Acc.alloc ?_ _ | refine Acc.setCell ?_ ?_ _) | (refine leB ?_; omega)))
    clear hb
    go_wp2_with fail
    refine bodyPost_ret (v := .tuple #[.agg #[.int .i64 0, .int .i64 0, .int .i64 0, .int .i64 0, .int .i64 0, .int .i64 0], .iface 128 (.agg #[.string s])]) (by simp [results, Tryz.results95, go_sem, *]) rfl ⟨fun _ _ _ _ _ _ h => (by cases h), fun _ => ⟨_, rfl⟩, ?_⟩
    show Acc w _
    (repeat' (first | (with_reducible first | assumption | exact Acc.refl _ | refine Acc.drew ?_ | refine Acc.drewN ?_ _ | refine Acc.alloc ?_ _ | refine Acc.setCell ?_ ?_ _) | (refine leB ?_; omega)))
  | some u =>
    obtain ⟨u1, u2, u3⟩ := u
    cases p with
    | none =>
      rw [show pairO (some (u1, u2, u3)) none = none by simp [pairO, okR]]
      go_enter Tryz.func95, Tryz.ntmps95
      go_wp2_with fail
      refine wp_loop_rounds 3 ?_
      rw [rounds_succ]
      go_wp2_with fail
      refine (HK.out _ (by repeat' (first | (with_reducible first | assumption | exact Acc.refl _ | refine Acc.drew ?_ | refine Acc.drewN ?_ _ | refine Acc.alloc ?_ _ | refine Acc.setCell ?_ ?_ _) | (refine leB ?_; omega)))).mono ?_
      rintro e W1 ⟨h, -, hb⟩
      obtain rfl := h _ _ _ rfl
      clear h
      obtain ⟨Br, Bp⟩ : Blk W1 (w.heap.size) [.int .i64 0, .int .i64 0, .int .i64 0, .int .i64 0, .int .i64 0, .int .i64 0] ∧ Blk W1 (w.heap.size + 1) [.int .i64 0, .int .i64 0, .int .i64 0, .int .i64 0, .int .i64 0, .int .i64 0] := by
        refine ⟨?_, ?_⟩ <;> refine Blk.keep hb ?_ <;> (repeat' (first | (with_reducible first | assumption | refine Blk.drew ?_ | refine Blk.drewN ?_ _ | apply Blk.set | (refine Blk.new ?_; focus (first | rfl | (simp; done))) | refine Blk.alloc ?_ _ | refine Blk.other ?_ ?_ _) | exact eqL rfl | (refine neB ?_; omega)))
      have cr := Br.cell
      have fr := Br.free
      have lr_W1 := Br.lt
      have cp := Bp.cell
      have fp := Bp.free
      have lp_W1 := Bp.lt
      have kaW1 : Acc w W1 := by
        refine Acc.call ?_ hb
        (repeat' (first | (with_reducible first | assumption | exact Acc.refl _ | refine Acc.drew ?_ | refine Acc.drewN ?_ _ | refine Acc.alloc ?_ _ | refine Acc.setCell ?_ ?_ _) | (refine leB ?_; omega)))
      clear hb
      go_wp2_with fail
      rw [rounds_succ]
      go_wp2_with fail
      refine (HL.out _ (by repeat' (first | (with_reducible first | assumption | exact Acc.refl _ | refine Acc.drew ?_ | refine Acc.drewN ?_ _ | refine Acc.alloc ?_ _ | refine Acc.setCell ?_ ?_ _) | (refine leB ?_; omega)))).mono ?_
      rintro e W2 ⟨-, h, hb⟩
      obtain ⟨s, rfl⟩ := h rfl
      clear h
      obtain ⟨Br, Bp⟩ : Blk W2 (w.heap.size) [.int .i64 0, .int .i64 0, .int .i64 0, .int .i64 0, .int .i64 0, .int .i64 0] ∧ Blk W2 (w.heap.size + 1) [.int .i64 u1, .int .i64 u2, .int .i64 u3, .int .i64 0, .int .i64 0, .int .i64 0] := by
        refine ⟨?_, ?_⟩ <;> refine Blk.keep hb ?_ <;> (repeat' (first | (with_reducible first | assumption | refine Blk.drew ?_ | refine Blk.drewN ?_ _ | apply Blk.set | (refine Blk.new ?_; focus (first | rfl | (simp; done))) | refine Blk.alloc ?_ _ | refine Blk.other ?_ ?_ _) | exact eqL rfl | (refine neB ?_; omega)))
      have cr := Br.cell
      have fr := Br.free
      have lr_W2 := Br.lt
      have cp := Bp.cell
      have fp := Bp.free
      have lp_W2 := Bp.lt
      have kaW2 : Acc w W2 := by
        refine Acc.call ?_ hb
        (repeat' (first | (with_reducible first | assumption | exact Acc.refl _ | refine Acc.drew ?_ | refine Acc.drewN ?_ _ | refine Acc.alloc ?_ _ | refine Acc.setCell ?_ ?_ _) | (refine leB ?_; omega)))
      clear hb
      go_wp2_with fail
      refine bodyPost_ret (v := .tuple #[.agg #[.int .i64 0, .int .i64 0, .int .i64 0, .int .i64 0, .int .i64 0, .int .i64 0], .iface 128 (.agg #[.string s])]) (by simp [results, Tryz.results95, go_sem, *]) rfl ⟨fun _ _ _ _ _ _ h => (by cases h), fun _ => ⟨_, rfl⟩, ?_⟩
      show Acc w _
      (repeat' (first | (with_reducible first | assumption | exact Acc.refl _ | refine Acc.drew ?_ | refine Acc.drewN ?_ _ | refine Acc.alloc ?_ _ | refine Acc.setCell ?_ ?_ _) | (refine leB ?_; omega)))
    | some v =>
      obtain ⟨v1, v2, v3⟩ := v
      rw [show pairO (some (u1, u2, u3)) (some (v1, v2, v3)) = some ((u1, u2, u3), (v1, v2, v3)) by simp [pairO, okR, partsR]]
      go_enter Tryz.func95, Tryz.ntmps95
      go_wp2_with fail
      refine wp_loop_rounds 3 ?_
      rw [rounds_succ]
      go_wp2_with fail
      refine (HK.out _ (by repeat' (first | (with_reducible first | assumption | exact Acc.refl _ | refine Acc.drew ?_ | refine Acc.drewN ?_ _ | refine Acc.alloc ?_ _ | refine Acc.setCell ?_ ?_ _) | (refine leB ?_; omega)))).mono ?_
      rintro e W1 ⟨h, -, hb⟩
      obtain rfl := h _ _ _ rfl
      clear h
      obtain ⟨Br, Bp⟩ : Blk W1 (w.heap.size) [.int .i64 0, .int .i64 0, .int .i64 0, .int .i64 0, .int .i64 0, .int .i64 0] ∧ Blk W1 (w.heap.size + 1) [.int .i64 0, .int .i64 0, .int .i64 0, .int .i64 0, .int .i64 0, .int .i64 0] := by
        refine ⟨?_, ?_⟩ <;> refine Blk.keep hb ?_ <;> (repeat' (first | (with_reducible first | assumption | refine Blk.drew ?_ | refine Blk.drewN ?_ _ | apply Blk.set | (refine Blk.new ?_; focus (first | rfl | (simp; done))) | refine Blk.alloc ?_ _ | refine Blk.other ?_ ?_ _) | exact eqL rfl | (refine neB ?_; omega)))
      have cr := Br.cell
      have fr := Br.free
      have lr_W1 := Br.lt
      have cp := Bp.cell
      have fp := Bp.free
      have lp_W1 := Bp.lt
      have kaW1 : Acc w W1 := by
        refine Acc.call ?_ hb
        (repeat' (first | (with_reducible first | assumption | exact Acc.refl _ | refine Acc.drew ?_ | refine Acc.drewN ?_ _ | refine Acc.alloc ?_ _ | refine Acc.setCell ?_ ?_ _) | (refine leB ?_; omega)))
      clear hb
      go_wp2_with fail
      rw [rounds_succ]
      go_wp2_with fail
      refine (HL.out _ (by repeat' (first | (with_reducible first | assumption | exact Acc.refl _ | refine Acc.drew ?_ | refine Acc.drewN ?_ _ | refine Acc.alloc ?_ _ | refine Acc.setCell ?_ ?_ _) | (refine leB ?_; omega)))).mono ?_
      rintro e W2 ⟨h, -, hb⟩
      obtain rfl := h _ _ _ rfl
      clear h
      obtain ⟨Br, Bp⟩ : Blk W2 (w.heap.size) [.int .i64 0, .int .i64 0, .int .i64 0, .int .i64 0, .int .i64 0, .int .i64 0] ∧ Blk W2 (w.heap.size + 1) [.int .i64 u1, .int .i64 u2, .int .i64 u3, .int .i64 0, .int .i64 0, .int .i64 0] := by
        refine ⟨?_, ?_⟩ <;> refine Blk.keep hb ?_ <;> (repeat' (first | (with_reducible first | assumption | refine Blk.drew ?_ | refine Blk.drewN ?_ _ | apply Blk.set | (refine Blk.new ?_; focus (first | rfl | (simp; done))) | refine Blk.alloc ?_ _ | refine Blk.other ?_ ?_ _) | exact eqL rfl | (refine neB ?_; omega)))
      have cr := Br.cell
      have fr := Br.free
      have lr_W2 := Br.lt
      have cp := Bp.cell
      have fp := Bp.free
      have lp_W2 := Bp.lt
      have kaW2 : Acc w W2 := by
        refine Acc.call ?_ hb
        (repeat' (first | (with_reducible first | assumption | exact Acc.refl _ | refine Acc.drew ?_ | refine Acc.drewN ?_ _ | refine Acc.alloc ?_ _ | refine Acc.setCell ?_ ?_ _) | (refine leB ?_; omega)))
      clear hb
      go_wp2_with fail
      rw [rounds_succ]
      go_wp2_with fail
      refine bodyPost_ret (v := .tuple #[.agg #[.int .i64 u1, .int .i64 u2, .int .i64 u3, .int .i64 v1, .int .i64 v2, .int .i64 v3], .nilIface]) (by simp [results, Tryz.results95, go_sem, *]) rfl ⟨fun _ _ _ _ _ _ h => (by cases h; rfl), fun h => (by cases h), ?_⟩
      show Acc w _
      (repeat' (first | (with_reducible first | assumption | exact Acc.refl _ | refine Acc.drew ?_ | refine Acc.drewN ?_ _ | refine Acc.alloc ?_ _ | refine Acc.setCell ?_ ?_ _) | (refine leB ?_; omega)))
set_option maxHeartbeats 1000000 in
theorem vpowers_any (x1 x2 x3 y1 y2 y3 : Int) (hx1 : i64B x1) (hx2 : i64B x2) (hx3 : i64B x3) (hy1 : i64B y1) (hy2 : i64B y2) (hy3 : i64B y3) (w : World) :
    Calls Tryz.prog 77 #[.agg #[.int .i64 x1, .int .i64 x2, .int .i64 x3, .int .i64 y1, .int .i64 y2, .int .i64 y3]] w (Erred6 (pairO (powerF x1 x2 x3) (powerF y1 y2 y3)) w) := by
  rw [show pairO (powerF x1 x2 x3) (powerF y1 y2 y3) = pairO (powerF x1 x2 x3) (powerF y1 y2 y3) from rfl]
  have hmf : ∀ (fn : Fn) (first cap : Array Value) (w : World), (Instr.makeFunc fn first cap).run Tryz.prog w = .ok (.func fn first cap) w := fun _ _ _ _ => rfl
  go_enter Tryz.func77, Tryz.ntmps77
  go_wp2_with fail
  refine (both_powers (w.heap.size) _ _ _ (fun W k => powersClo_0 (w.heap.size) x1 x2 x3 y1 y2 y3 hx1 hx2 hx3 hy1 hy2 hy3 W (Blk.keep k (by repeat' (first | (with_reducible first | assumption | refine Blk.drew ?_ | refine Blk.drewN ?_ _ | apply Blk.set | (refine Blk.new ?_; focus (first | rfl | (simp; done))) | refine Blk.alloc ?_ _ | refine Blk.other ?_ ?_ _) | exact eqL rfl | (refine neB ?_; omega))))) (fun W k => powersClo_1 (w.heap.size) x1 x2 x3 y1 y2 y3 hx1 hx2 hx3 hy1 hy2 hy3 W (Blk.keep k (by repeat' (first | (with_reducible first | assumption | refine Blk.drew ?_ | refine Blk.drewN ?_ _ | apply Blk.set | (refine Blk.new ?_; focus (first | rfl | (simp; done))) | refine Blk.alloc ?_ _ | refine Blk.other ?_ ?_ _) | exact eqL rfl | (refine neB ?_; omega)))))).mono ?_
  rintro e W1 ⟨h1, h2, hb⟩
  obtain ⟨Bb, Br⟩ : Blk W1 (w.heap.size) [.int .i64 x1, .int .i64 x2, .int .i64 x3, .int .i64 y1, .int .i64 y2, .int .i64 y3] ∧ Blk W1 (w.heap.size + 1) [.int .i64 0, .int .i64 0, .int .i64 0, .int .i64 0, .int .i64 0, .int .i64 0] := by
    refine ⟨?_, ?_⟩ <;> refine Blk.keep hb ?_ <;> (repeat' (first | (with_reducible first | assumption | refine Blk.drew ?_ | refine Blk.drewN ?_ _ | apply Blk.set | (refine Blk.new ?_; focus (first | rfl | (simp; done))) | refine Blk.alloc ?_ _ | refine Blk.other ?_ ?_ _) | exact eqL rfl | (refine neB ?_; omega)))
  have cb := Bb.cell
  have fb := Bb.free
  have lb_W1 := Bb.lt
  have cr := Br.cell
  have fr := Br.free
  have lr_W1 := Br.lt
  have kaW1 : Acc w W1 := by
    refine Acc.call ?_ hb
    (repeat' (first | (with_reducible first | assumption | exact Acc.refl _ | refine Acc.drew ?_ | refine Acc.drewN ?_ _ | refine Acc.alloc ?_ _ | refine Acc.setCell ?_ ?_ _) | (refine leB ?_; omega)))
  clear hb
  cases ho : pairO (powerF x1 x2 x3) (powerF y1 y2 y3) with
  | none =>
    obtain ⟨s, rfl⟩ := h2 ho
    have HO := Lib.hid ho
    clear h1 h2 ho
    go_wp2_with fail
    refine bodyPost_ret (v := .tuple #[.agg #[.int .i64 0, .int .i64 0, .int .i64 0, .int .i64 0, .int .i64 0, .int .i64 0], .iface 128 (.agg #[.string s])]) (by simp [results, Tryz.results77, go_sem, *]) rfl ⟨fun _ _ _ _ _ _ h => (by rw [HO.out] at h; cases h), fun _ => ⟨_, rfl⟩, ?_⟩
    show Acc w _
    (repeat' (first | (with_reducible first | assumption | exact Acc.refl _ | refine Acc.drew ?_ | refine Acc.drewN ?_ _ | refine Acc.alloc ?_ _ | refine Acc.setCell ?_ ?_ _) | (refine leB ?_; omega)))
  | some v =>
    obtain ⟨⟨u1, u2, u3⟩, v1, v2, v3⟩ := v
    obtain rfl := h1 _ _ _ _ _ _ ho
    have HO := Lib.hid ho
    clear h1 h2 ho
    go_wp2_with fail
    refine bodyPost_ret (v := .tuple #[.agg #[.int .i64 u1, .int .i64 u2, .int .i64 u3, .int .i64 v1, .int .i64 v2, .int .i64 v3], .nilIface]) (by simp [results, Tryz.results77, go_sem, *]) rfl ⟨fun _ _ _ _ _ _ h => (by rw [HO.out] at h; cases h; rfl), fun h => (by rw [HO.out] at h; cases h), ?_⟩
    show Acc w _
    (repeat' (first | (with_reducible first | assumption | exact Acc.refl _ | refine Acc.drew ?_ | refine Acc.drewN ?_ _ | refine Acc.alloc ?_ _ | refine Acc.setCell ?_ ?_ _) | (refine leB ?_; omega)))
theorem addO_bind (o p : Option (Int × Int × Int)) : addO o p = (pairO o p).bind fun r => addF r.1.1 r.1.2.1 r.1.2.2 r.2.1 r.2.2.1 r.2.2.2 := by
  cases o <;> cases p <;> simp [addO, pairO, okR, partsR]
theorem pairO_some {o p : Option (Int × Int × Int)} {u v : Int × Int × Int} (h : pairO o p = some (u, v)) : o = some u ∧ p = some v := by
  cases o <;> cases p <;> simp_all [pairO, okR, partsR]
theorem mirror_some {x y z u v t : Int} (h : mirrorF x y z = some (u, v, t)) : okF x y z = true ∧ u = x ∧ v = -y ∧ t = z ∧ okF u v t = true := by
  unfold mirrorF at h
  split at h
  · rename_i hk
    cases h
    exact ⟨hk, rfl, rfl, rfl, by rw [okF_neg1]; exact hk⟩
  · cases h
set_option maxHeartbeats 1000000 in
theorem vpower_any (x1 x2 x3 y1 y2 y3 : Int) (hx1 : i64B x1) (hx2 : i64B x2) (hx3 : i64B x3) (hy1 : i64B y1) (hy2 : i64B y2) (hy3 : i64B y3) (w : World) :
    Calls Tryz.prog 44 #[.agg #[.int .i64 x1, .int .i64 x2, .int .i64 x3, .int .i64 y1, .int .i64 y2, .int .i64 y3]] w (Erred (jpowF x1 x2 x3 y1 y2 y3) w) := by
  have HE := Lib.hid (addO_bind (powerF x1 x2 x3) (powerF y1 y2 y3))
  rw [show jpowF x1 x2 x3 y1 y2 y3 = addO (powerF x1 x2 x3) (powerF y1 y2 y3) from rfl]
  obtain ⟨o, E⟩ : ∃ o, addO (powerF x1 x2 x3) (powerF y1 y2 y3) = o := ⟨_, rfl⟩
  rw [E] at HE ⊢
  clear E
  go_enter Tryz.func44, Tryz.ntmps44
  go_wp2_with fail
  refine (vpowers_any x1 x2 x3 y1 y2 y3 hx1 hx2 hx3 hy1 hy2 hy3 _).mono ?_
  rintro e W1 ⟨h1, h2, hb⟩
  obtain ⟨Bb, Br⟩ : Blk W1 (w.heap.size) [.int .i64 x1, .int .i64 x2, .int .i64 x3, .int .i64 y1, .int .i64 y2, .int .i64 y3] ∧ Blk W1 (w.heap.size + 1) [.int .i64 0, .int .i64 0, .int .i64 0] := by
    refine ⟨?_, ?_⟩ <;> refine Blk.keep hb ?_ <;> (repeat' (first | (with_reducible first | assumption | refine Blk.drew ?_ | refine Blk.drewN ?_ _ | apply Blk.set | (refine Blk.new ?_; focus (first | rfl | (simp; done))) | refine Blk.alloc ?_ _ | refine Blk.other ?_ ?_ _) | exact eqL rfl | (refine neB ?_; omega)))
  have cb := Bb.cell
  have fb := Bb.free
  have lb_W1 := Bb.lt
  have cr := Br.cell
  have fr := Br.free
  have lr_W1 := Br.lt
  have kaW1 : Acc w W1 := by
    refine Acc.call ?_ hb
    (repeat' (first | (with_reducible first | assumption | exact Acc.refl _ | refine Acc.drew ?_ | refine Acc.drewN ?_ _ | refine Acc.alloc ?_ _ | refine Acc.setCell ?_ ?_ _) | (refine leB ?_; omega)))
  clear hb
  cases ho : pairO (powerF x1 x2 x3) (powerF y1 y2 y3) with
  | none =>
    rw [ho] at HE
    obtain rfl : o = none := HE.out
    obtain ⟨s, rfl⟩ := h2 ho
    clear h1 h2 ho HE
    go_wp2_with fail
    refine bodyPost_ret (v := .tuple #[.agg #[.int .i64 0, .int .i64 0, .int .i64 0], .iface 128 (.agg #[.string s])]) (by simp [results, Tryz.results44, go_sem, *]) rfl ⟨fun _ _ _ h => (by cases h), fun _ => ⟨_, rfl⟩, ?_⟩
    show Acc w _
    (repeat' (first | (with_reducible first | assumption | exact Acc.refl _ | refine Acc.drew ?_ | refine Acc.drewN ?_ _ | refine Acc.alloc ?_ _ | refine Acc.setCell ?_ ?_ _) | (refine leB ?_; omega)))
  | some v =>
    rw [ho] at HE
    obtain ⟨⟨u1, u2, u3⟩, v1, v2, v3⟩ := v
    obtain rfl := h1 _ _ _ _ _ _ ho
    obtain ⟨ho1, ho2⟩ := pairO_some ho
    obtain ⟨hu1, hu2, hu3⟩ := okF_i64 ((power_some ho1).2.1)
    obtain ⟨hv1, hv2, hv3⟩ := okF_i64 ((power_some ho2).2.1)
    clear h1 h2 ho ho1 ho2
    go_wp2_with fail
    refine (plus_any u1 u2 u3 v1 v2 v3 _ hu1 hu2 hu3 hv1 hv2 hv3).mono ?_
    rintro e W2 ⟨h1, h2, hb⟩
    obtain ⟨Bb, Br⟩ : Blk W2 (w.heap.size) [.int .i64 x1, .int .i64 x2, .int .i64 x3, .int .i64 y1, .int .i64 y2, .int .i64 y3] ∧ Blk W2 (w.heap.size + 1) [.int .i64 0, .int .i64 0, .int .i64 0] := by
      refine ⟨?_, ?_⟩ <;> refine Blk.keep hb ?_ <;> (repeat' (first | (with_reducible first | assumption | refine Blk.drew ?_ | refine Blk.drewN ?_ _ | apply Blk.set | (refine Blk.new ?_; focus (first | rfl | (simp; done))) | refine Blk.alloc ?_ _ | refine Blk.other ?_ ?_ _) | exact eqL rfl | (refine neB ?_; omega)))
    have cb := Bb.cell
    have fb := Bb.free
    have lb_W2 := Bb.lt
    have cr := Br.cell
    have fr := Br.free
    have lr_W2 := Br.lt
    have kaW2 : Acc w W2 := by
      refine Acc.call ?_ hb
      (repeat' (first | (with_reducible first | assumption | exact Acc.refl _ | refine Acc.drew ?_ | refine Acc.drewN ?_ _ | refine Acc.alloc ?_ _ | refine Acc.setCell ?_ ?_ _) | (refine leB ?_; omega)))
    clear hb
    rw [show sumF 1 u1 u2 u3 v1 v2 v3 = o from HE.out.symm] at h1 h2
    clear HE
    cases o with
    | none =>
      obtain ⟨s, rfl⟩ := h2 rfl
      clear h1 h2
      go_wp2_with fail
      refine bodyPost_ret (v := .tuple #[.agg #[.int .i64 0, .int .i64 0, .int .i64 0], .iface 128 (.agg #[.string s])]) (by simp [results, Tryz.results44, go_sem, *]) rfl ⟨fun _ _ _ h => (by cases h), fun _ => ⟨_, rfl⟩, ?_⟩
      show Acc w _
      (repeat' (first | (with_reducible first | assumption | exact Acc.refl _ | refine Acc.drew ?_ | refine Acc.drewN ?_ _ | refine Acc.alloc ?_ _ | refine Acc.setCell ?_ ?_ _) | (refine leB ?_; omega)))
    | some r =>
      obtain ⟨r1, r2, r3⟩ := r
      obtain rfl := h1 _ _ _ rfl
      clear h1 h2
      go_wp2_with fail
      refine bodyPost_ret (v := .tuple #[.agg #[.int .i64 r1, .int .i64 r2, .int .i64 r3], .nilIface]) (by simp [results, Tryz.results44, go_sem, *]) rfl ⟨fun _ _ _ h => (by cases h; rfl), fun h => (by cases h), ?_⟩
      show Acc w _
      (repeat' (first | (with_reducible first | assumption | exact Acc.refl _ | refine Acc.drew ?_ | refine Acc.drewN ?_ _ | refine Acc.alloc ?_ _ | refine Acc.setCell ?_ ?_ _) | (refine leB ?_; omega)))
theorem inner_bind (x1 x2 x3 y1 y2 y3 a1 a2 a3 b1 b2 b3 : Int) : innerF x1 x2 x3 y1 y2 y3 a1 a2 a3 b1 b2 b3 = (jmirrorF a1 a2 a3 b1 b2 b3).bind fun m => innF x1 x2 x3 m.1.1 m.1.2.1 m.1.2.2 y1 y2 y3 m.2.1 m.2.2.1 m.2.2.2 := by
  unfold innerF jmirrorF pairO innF
  cases mirrorF a1 a2 a3 <;> cases mirrorF b1 b2 b3 <;> simp [okR, partsR]
theorem cross_bind (x1 x2 x3 y1 y2 y3 : Int) : jcrossF x1 x2 x3 y1 y2 y3 = (jmirrorF x1 x2 x3 y1 y2 y3).bind fun m => some ((-m.2.1, -m.2.2.1, m.2.2.2), m.1) := by
  unfold jcrossF jmirrorF pairO
  cases mirrorF x1 x2 x3 <;> cases mirrorF y1 y2 y3 <;> simp [okR, partsR]
theorem toldF_ok (x y z : Int) (w : World) : Calls Tryz.prog 43 #[.agg #[.int .i64 x, .int .i64 y, .int .i64 z], .nilIface] w fun e w' => e = .returned (.tuple #[.agg #[.int .i64 x, .int .i64 y, .int .i64 z], .bool true]) ∧ Below w.heap.size w w' := toldFrac_ok x y z w
theorem toldF_err (x y z : Int) (s : ByteArray) (w : World) (hl : Laid w) : Calls Tryz.prog 43 #[.agg #[.int .i64 x, .int .i64 y, .int .i64 z], .iface 128 (.agg #[.string s])] w fun e w' => e = .returned (.tuple #[.agg #[.int .i64 0, .int .i64 0, .int .i64 0], .bool false]) ∧ Below w.heap.size w w' := toldFrac_err x y z s w hl

set_option maxHeartbeats 4000000 in
theorem implJPower_any (x1 x2 x3 y1 y2 y3 : Int) (hx1 : i64B x1) (hx2 : i64B x2) (hx3 : i64B x3) (hy1 : i64B y1) (hy2 : i64B y2) (hy3 : i64B y3) (w : World) (hl : Laid w) :
    Calls Tryz.prog 16 #[.agg #[.int .i64 x1, .int .i64 x2, .int .i64 x3, .int .i64 y1, .int .i64 y2, .int .i64 y3]] w (Gave (jpowF x1 x2 x3 y1 y2 y3) w) := by
  have HL := Lib.hid fun W (k : Acc w W) => hl.acc k
  have C := Lib.hid fun w => vpower_any x1 x2 x3 y1 y2 y3 hx1 hx2 hx3 hy1 hy2 hy3 w
  clear hl
  obtain ⟨o, E⟩ : ∃ o, jpowF x1 x2 x3 y1 y2 y3 = o := ⟨_, rfl⟩
  rw [E] at C ⊢
  clear E hx1 hx2 hx3 hy1 hy2 hy3
  cases o with
  | none =>
    have D := Lib.hid fun w => (C.out w).mono fun e w' h => And.intro (h.2.1 rfl) h.2.2
    clear C
    go_enter Tryz.func16, Tryz.ntmps16
    go_wp2_with fail
    refine (vectorOf_any x1 x2 x3 y1 y2 y3 _).mono ?_
    rintro e W1 ⟨rfl, hb⟩
    obtain ⟨Ba, Br⟩ : Blk W1 (w.heap.size) [.int .i64 x1, .int .i64 x2, .int .i64 x3, .int .i64 y1, .int .i64 y2, .int .i64 y3] ∧ Blk W1 (w.heap.size + 1) [.int .i64 0, .int .i64 0, .int .i64 0] := by
      refine ⟨?_, ?_⟩ <;> refine Blk.keep hb ?_ <;> (repeat' (first | (with_reducible first | assumption | refine Blk.drew ?_ | refine Blk.drewN ?_ _ | apply Blk.set | (refine Blk.new ?_; focus (first | rfl | (simp; done))) | refine Blk.alloc ?_ _ | refine Blk.other ?_ ?_ _) | exact eqL rfl | (refine neB ?_; omega)))
    have ca := Ba.cell
    have fa := Ba.free
    have la_W1 := Ba.lt
    have cr := Br.cell
    have fr := Br.free
    have lr_W1 := Br.lt
    have kaW1 : Acc w W1 := by
      refine Acc.call ?_ hb
      (repeat' (first | (with_reducible first | assumption | exact Acc.refl _ | refine Acc.drew ?_ | refine Acc.drewN ?_ _ | refine Acc.alloc ?_ _ | refine Acc.setCell ?_ ?_ _) | (refine leB ?_; omega)))
    clear hb
    go_wp2_with fail
    refine (D.out _).mono ?_
    rintro e W2 ⟨⟨s, rfl⟩, hb⟩
    obtain ⟨Ba, Br⟩ : Blk W2 (w.heap.size) [.int .i64 x1, .int .i64 x2, .int .i64 x3, .int .i64 y1, .int .i64 y2, .int .i64 y3] ∧ Blk W2 (w.heap.size + 1) [.int .i64 0, .int .i64 0, .int .i64 0] := by
      refine ⟨?_, ?_⟩ <;> refine Blk.keep hb ?_ <;> (repeat' (first | (with_reducible first | assumption | refine Blk.drew ?_ | refine Blk.drewN ?_ _ | apply Blk.set | (refine Blk.new ?_; focus (first | rfl | (simp; done))) | refine Blk.alloc ?_ _ | refine Blk.other ?_ ?_ _) | exact eqL rfl | (refine neB ?_; omega)))
    have ca := Ba.cell
    have fa := Ba.free
    have la_W2 := Ba.lt
    have cr := Br.cell
    have fr := Br.free
    have lr_W2 := Br.lt
    have kaW2 : Acc w W2 := by
      refine Acc.call ?_ hb
      (repeat' (first | (with_reducible first | assumption | exact Acc.refl _ | refine Acc.drew ?_ | refine Acc.drewN ?_ _ | refine Acc.alloc ?_ _ | refine Acc.setCell ?_ ?_ _) | (refine leB ?_; omega)))
    clear hb
    go_wp2_with fail
    refine (toldF_err _ _ _ s _ (HL.out _ (by repeat' (first | (with_reducible first | assumption | exact Acc.refl _ | refine Acc.drew ?_ | refine Acc.drewN ?_ _ | refine Acc.alloc ?_ _ | refine Acc.setCell ?_ ?_ _) | (refine leB ?_; omega))))).mono ?_
    rintro e W3 ⟨rfl, hb⟩
    obtain ⟨Ba, Br⟩ : Blk W3 (w.heap.size) [.int .i64 x1, .int .i64 x2, .int .i64 x3, .int .i64 y1, .int .i64 y2, .int .i64 y3] ∧ Blk W3 (w.heap.size + 1) [.int .i64 0, .int .i64 0, .int .i64 0] := by
      refine ⟨?_, ?_⟩ <;> refine Blk.keep hb ?_ <;> (repeat' (first | (with_reducible first | assumption | refine Blk.drew ?_ | refine Blk.drewN ?_ _ | apply Blk.set | (refine Blk.new ?_; focus (first | rfl | (simp; done))) | refine Blk.alloc ?_ _ | refine Blk.other ?_ ?_ _) | exact eqL rfl | (refine neB ?_; omega)))
    have ca := Ba.cell
    have fa := Ba.free
    have la_W3 := Ba.lt
    have cr := Br.cell
    have fr := Br.free
    have lr_W3 := Br.lt
    have kaW3 : Acc w W3 := by
      refine Acc.call ?_ hb
      (repeat' (first | (with_reducible first | assumption | exact Acc.refl _ | refine Acc.drew ?_ | refine Acc.drewN ?_ _ | refine Acc.alloc ?_ _ | refine Acc.setCell ?_ ?_ _) | (refine leB ?_; omega)))
    clear hb
    go_wp2_with fail
    refine bodyPost_ret (v := .tuple #[.agg #[.int .i64 0, .int .i64 0, .int .i64 0], .bool false]) (by simp [results, Tryz.results16, go_sem, *]) rfl ⟨rfl, ?_⟩
    show Acc w _
    (repeat' (first | (with_reducible first | assumption | exact Acc.refl _ | refine Acc.drew ?_ | refine Acc.drewN ?_ _ | refine Acc.alloc ?_ _ | refine Acc.setCell ?_ ?_ _) | (refine leB ?_; omega)))
  | some v =>
    obtain ⟨r1, r2, r3⟩ := v
    have D := Lib.hid fun w => (C.out w).mono fun e w' h => And.intro (h.1 _ _ _ rfl) h.2.2
    clear C
    go_enter Tryz.func16, Tryz.ntmps16
    go_wp2_with fail
    refine (vectorOf_any x1 x2 x3 y1 y2 y3 _).mono ?_
    rintro e W1 ⟨rfl, hb⟩
    obtain ⟨Ba, Br⟩ : Blk W1 (w.heap.size) [.int .i64 x1, .int .i64 x2, .int .i64 x3, .int .i64 y1, .int .i64 y2, .int .i64 y3] ∧ Blk W1 (w.heap.size + 1) [.int .i64 0, .int .i64 0, .int .i64 0] := by
      refine ⟨?_, ?_⟩ <;> refine Blk.keep hb ?_ <;> (repeat' (first | (with_reducible first | assumption | refine Blk.drew ?_ | refine Blk.drewN ?_ _ | apply Blk.set | (refine Blk.new ?_; focus (first | rfl | (simp; done))) | refine Blk.alloc ?_ _ | refine Blk.other ?_ ?_ _) | exact eqL rfl | (refine neB ?_; omega)))
    have ca := Ba.cell
    have fa := Ba.free
    have la_W1 := Ba.lt
    have cr := Br.cell
    have fr := Br.free
    have lr_W1 := Br.lt
    have kaW1 : Acc w W1 := by
      refine Acc.call ?_ hb
      (repeat' (first | (with_reducible first | assumption | exact Acc.refl _ | refine Acc.drew ?_ | refine Acc.drewN ?_ _ | refine Acc.alloc ?_ _ | refine Acc.setCell ?_ ?_ _) | (refine leB ?_; omega)))
    clear hb
    go_wp2_with fail
    refine (D.out _).mono ?_
    rintro e W2 ⟨rfl, hb⟩
    obtain ⟨Ba, Br⟩ : Blk W2 (w.heap.size) [.int .i64 x1, .int .i64 x2, .int .i64 x3, .int .i64 y1, .int .i64 y2, .int .i64 y3] ∧ Blk W2 (w.heap.size + 1) [.int .i64 0, .int .i64 0, .int .i64 0] := by
      refine ⟨?_, ?_⟩ <;> refine Blk.keep hb ?_ <;> (repeat' (first | (with_reducible first | assumption | refine Blk.drew ?_ | refine Blk.drewN ?_ _ | apply Blk.set | (refine Blk.new ?_; focus (first | rfl | (simp; done))) | refine Blk.alloc ?_ _ | refine Blk.other ?_ ?_ _) | exact eqL rfl | (refine neB ?_; omega)))
    have ca := Ba.cell
    have fa := Ba.free
    have la_W2 := Ba.lt
    have cr := Br.cell
    have fr := Br.free
    have lr_W2 := Br.lt
    have kaW2 : Acc w W2 := by
      refine Acc.call ?_ hb
      (repeat' (first | (with_reducible first | assumption | exact Acc.refl _ | refine Acc.drew ?_ | refine Acc.drewN ?_ _ | refine Acc.alloc ?_ _ | refine Acc.setCell ?_ ?_ _) | (refine leB ?_; omega)))
    clear hb
    go_wp2_with fail
    refine (toldF_ok r1 r2 r3 _).mono ?_
    rintro e W3 ⟨rfl, hb⟩
    obtain ⟨Ba, Br⟩ : Blk W3 (w.heap.size) [.int .i64 x1, .int .i64 x2, .int .i64 x3, .int .i64 y1, .int .i64 y2, .int .i64 y3] ∧ Blk W3 (w.heap.size + 1) [.int .i64 0, .int .i64 0, .int .i64 0] := by
      refine ⟨?_, ?_⟩ <;> refine Blk.keep hb ?_ <;> (repeat' (first | (with_reducible first | assumption | refine Blk.drew ?_ | refine Blk.drewN ?_ _ | apply Blk.set | (refine Blk.new ?_; focus (first | rfl | (simp; done))) | refine Blk.alloc ?_ _ | refine Blk.other ?_ ?_ _) | exact eqL rfl | (refine neB ?_; omega)))
    have ca := Ba.cell
    have fa := Ba.free
    have la_W3 := Ba.lt
    have cr := Br.cell
    have fr := Br.free
    have lr_W3 := Br.lt
    have kaW3 : Acc w W3 := by
      refine Acc.call ?_ hb
      (repeat' (first | (with_reducible first | assumption | exact Acc.refl _ | refine Acc.drew ?_ | refine Acc.drewN ?_ _ | refine Acc.alloc ?_ _ | refine Acc.setCell ?_ ?_ _) | (refine leB ?_; omega)))
    clear hb
    go_wp2_with fail
    refine bodyPost_ret (v := .tuple #[.agg #[.int .i64 r1, .int .i64 r2, .int .i64 r3], .bool true]) (by simp [results, Tryz.results16, go_sem, *]) rfl ⟨rfl, ?_⟩
    show Acc w _
    (repeat' (first | (with_reducible first | assumption | exact Acc.refl _ | refine Acc.drew ?_ | refine Acc.drewN ?_ _ | refine Acc.alloc ?_ _ | refine Acc.setCell ?_ ?_ _) | (refine leB ?_; omega)))
def vdarkB (x1 x2 x3 y1 y2 y3 : Int) : Bool := x1 == 0 && x2 == 0 && x3 == 1 && (y1 == 0 && y2 == 0 && y3 == 1)
theorem okF_zero {x y z : Int} (h : okF x y z = true) : (x == 0 && y == 0 && z == 1) = (x == 0 && y == 0) := by
  by_cases hx : x = 0
  · by_cases hy : y = 0
    · subst hx hy
      have hg := okF_gcd h
      obtain ⟨-, -, z0, z1⟩ := okF_bd h
      unfold gcd3 at hg
      simp at hg
      have : z = 1 := by omega
      simp [this]
    · simp [hy]
  · simp [hx]
theorem vdark_eq {x1 x2 x3 y1 y2 y3 : Int} (h : okF x1 x2 x3 = true) (k : okF y1 y2 y3 = true) : vdarkB x1 x2 x3 y1 y2 y3 = darkB x1 x2 x3 y1 y2 y3 := by
  have e1 := okF_zero h
  have e2 := okF_zero k
  unfold vdarkB darkB
  rw [e1, e2, ← Bool.and_assoc]
/-- What 'alike' hands back. -/
def ErredB (o : Option Bool) (w : World) (e : Ending) (w' : World) : Prop :=
  (∀ k, o = some k → e = .returned (.tuple #[.bool k, .nilIface])) ∧ (o = none → ∃ s, e = .returned (.tuple #[.bool false, .iface 128 (.agg #[.string s])])) ∧ Below w.heap.size w w'
def valikeF (x1 x2 x3 y1 y2 y3 a1 a2 a3 b1 b2 b3 : Int) : Option Bool := (pairO (timesF x1 x2 x3 b1 b2 b3) (timesF y1 y2 y3 a1 a2 a3)).map fun r => r.1 == r.2 && (darkB x1 x2 x3 y1 y2 y3 == darkB a1 a2 a3 b1 b2 b3)
theorem pairO_some' {o p : Option (Int × Int × Int)} {u v : Int × Int × Int} (h : pairO o p = some (u, v)) : o = some u ∧ p = some v := by
  cases o <;> cases p <;> simp_all [pairO, okR, partsR]
set_option maxHeartbeats 1000000 in
theorem toldBool_ok (k : Bool) (w : World) : Calls Tryz.prog 71 #[.bool k, .nilIface] w fun e w' => e = .returned (.tuple #[.bool k, .bool true]) ∧ Below w.heap.size w w' := by
  go_enter Tryz.func71, Tryz.ntmps71
  go_wp2_with fail
  refine (isNone_nil _).mono ?_
  rintro e w1 ⟨rfl, hb⟩
  go_wp2_with fail
  go_ret2
  exact ⟨rfl, hb⟩
set_option maxHeartbeats 1000000 in
theorem toldBool_err (k : Bool) (s : ByteArray) (w : World) (hl : Laid w) : Calls Tryz.prog 71 #[.bool k, .iface 128 (.agg #[.string s])] w fun e w' => e = .returned (.tuple #[.bool false, .bool false]) ∧ Below w.heap.size w w' := by
  go_enter Tryz.func71, Tryz.ntmps71
  go_wp2_with fail
  refine (isNone_hit s _ hl).mono ?_
  rintro e w1 ⟨rfl, hb⟩
  go_wp2_with fail
  go_ret2
  exact ⟨rfl, hb⟩
set_option maxHeartbeats 1000000 in
theorem holds_ok (k : Bool) (w : World) : Calls Tryz.prog 34 #[.bool k, .nilIface] w fun e w' => e = .returned (.bool k) ∧ Below w.heap.size w w' := by
  go_enter Tryz.func34, Tryz.ntmps34
  go_wp2_with fail
  refine (toldBool_ok k _).mono ?_
  rintro e w1 ⟨rfl, hb⟩
  go_wp2_with fail
  all_goals
    go_ret
    exact ⟨by first | rfl | (simp [*]; done), hb⟩
set_option maxHeartbeats 1000000 in
theorem holds_err (k : Bool) (s : ByteArray) (w : World) (hl : Laid w) : Calls Tryz.prog 34 #[.bool k, .iface 128 (.agg #[.string s])] w fun e w' => e = .returned (.bool false) ∧ Below w.heap.size w w' := by
  go_enter Tryz.func34, Tryz.ntmps34
  go_wp2_with fail
  refine (toldBool_err k s _ hl).mono ?_
  rintro e w1 ⟨rfl, hb⟩
  go_wp2_with fail
  all_goals
    go_ret
    exact ⟨by first | rfl | (simp [*]; done), hb⟩
theorem alike_eq (x1 x2 x3 y1 y2 y3 a1 a2 a3 b1 b2 b3 : Int) : alikeF x1 x2 x3 y1 y2 y3 a1 a2 a3 b1 b2 b3 = (valikeF x1 x2 x3 y1 y2 y3 a1 a2 a3 b1 b2 b3).getD false := by
  unfold alikeF valikeF vbeq
  cases timesF x1 x2 x3 b1 b2 b3 with
  | none => rfl
  | some u =>
    cases timesF y1 y2 y3 a1 a2 a3 with
    | none => rfl
    | some v =>
      obtain ⟨u1, u2, u3⟩ := u
      obtain ⟨v1, v2, v3⟩ := v
      simp only [pairO, okR, partsR, Option.isSome_some, Bool.and_self, if_true, Option.map_some, Option.getD_some, Bool.true_and]
      rw [Bool.eq_iff_iff]
      simp [Bool.and_eq_true, beq_iff_eq, Prod.mk.injEq, and_assoc]
end Go.Proofs.YtkdkeacfifjjoaaGreatDoor
