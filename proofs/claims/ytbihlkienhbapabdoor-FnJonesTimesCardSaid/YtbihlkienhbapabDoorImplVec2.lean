/-
  The program's methods of vectors: mirror, plus, times.
-/
import Derived.Test.YtbihlkienhbapabDoorImplBoth1
import Derived.Test.YtbihlkienhbapabDoorImplBoth2
import Derived.Test.YtbihlkienhbapabDoorImplBoth3
namespace Go.Proofs.YtbihlkienhbapabDoor
open Go.ChangeShapes Go.WideShapes Go.ChangeAt Go.RowKit
set_option linter.unusedVariables false

set_option maxHeartbeats 1000000 in
theorem vmirror_any (x1 x2 x3 y1 y2 y3 : Int) (hx1 : i64B x1) (hx2 : i64B x2) (hx3 : i64B x3) (hy1 : i64B y1) (hy2 : i64B y2) (hy3 : i64B y3) (w : World) :
    Calls Tryd.prog 82 #[.agg #[.int .i64 x1, .int .i64 x2, .int .i64 x3, .int .i64 y1, .int .i64 y2, .int .i64 y3]] w (Erred6 (jmirrorF x1 x2 x3 y1 y2 y3) w) := by
  rw [show jmirrorF x1 x2 x3 y1 y2 y3 = pairO (mirrorF x1 x2 x3) (mirrorF y1 y2 y3) from rfl]
  have hmf : ∀ (fn : Fn) (first cap : Array Value) (w : World), (Instr.makeFunc fn first cap).run Tryd.prog w = .ok (.func fn first cap) w := fun _ _ _ _ => rfl
  go_enter Tryd.func82, Tryd.ntmps82
  go_wp2_with fail
  refine (both_mirror (w.heap.size) _ _ _ (fun W k => mirrorClo_0 (w.heap.size) x1 x2 x3 y1 y2 y3 hx1 hx2 hx3 hy1 hy2 hy3 W (Blk.keep k (by repeat' (first | (with_reducible first | assumption | refine Blk.drew ?_ | refine Blk.drewN ?_ _ | apply Blk.set | (refine Blk.new ?_; focus (first | rfl | (simp; done))) | refine Blk.alloc ?_ _ | refine Blk.other ?_ ?_ _) | exact eqL rfl | (refine neB ?_; omega))))) (fun W k => mirrorClo_1 (w.heap.size) x1 x2 x3 y1 y2 y3 hx1 hx2 hx3 hy1 hy2 hy3 W (Blk.keep k (by repeat' (first | (with_reducible first | assumption | refine Blk.drew ?_ | refine Blk.drewN ?_ _ | apply Blk.set | (refine Blk.new ?_; focus (first | rfl | (simp; done))) | refine Blk.alloc ?_ _ | refine Blk.other ?_ ?_ _) | exact eqL rfl | (refine neB ?_; omega)))))).mono ?_
  rintro e W1 ⟨h1, h2, hb⟩
  have Bb : Blk W1 (w.heap.size) [.int .i64 x1, .int .i64 x2, .int .i64 x3, .int .i64 y1, .int .i64 y2, .int .i64 y3] := Blk.keep hb (by repeat' (first | (with_reducible first | assumption | refine Blk.drew ?_ | refine Blk.drewN ?_ _ | apply Blk.set | (refine Blk.new ?_; focus (first | rfl | (simp; done))) | refine Blk.alloc ?_ _ | refine Blk.other ?_ ?_ _) | exact eqL rfl | (refine neB ?_; omega)))
  have Br : Blk W1 (w.heap.size + 1) [.int .i64 0, .int .i64 0, .int .i64 0, .int .i64 0, .int .i64 0, .int .i64 0] := Blk.keep hb (by repeat' (first | (with_reducible first | assumption | refine Blk.drew ?_ | refine Blk.drewN ?_ _ | apply Blk.set | (refine Blk.new ?_; focus (first | rfl | (simp; done))) | refine Blk.alloc ?_ _ | refine Blk.other ?_ ?_ _) | exact eqL rfl | (refine neB ?_; omega)))
  have cb := Bb.cell
  have fb := Bb.free
  have lb_W1 := Bb.lt
  have cr := Br.cell
  have fr := Br.free
  have lr_W1 := Br.lt
  have kaW1 : Acc w W1 := by
    refine Acc.call ?_ hb
    (repeat' (first | (with_reducible first | assumption | exact Acc.refl _ | refine Acc.drew ?_ | refine Acc.drewN ?_ _ | refine Acc.alloc ?_ _ | refine Acc.setCell ?_ ?_ _) | (refine leB ?_; omega)))
  clear hb
  cases ho : pairO (mirrorF x1 x2 x3) (mirrorF y1 y2 y3) with
  | none =>
    obtain ⟨s, rfl⟩ := h2 ho
    have HO := Lib.hid ho
    clear h1 h2 ho
    go_wp2_with fail
    refine bodyPost_ret (v := .tuple #[.agg #[.int .i64 0, .int .i64 0, .int .i64 0, .int .i64 0, .int .i64 0, .int .i64 0], .iface 104 (.agg #[.string s])]) (by simp [results, Tryd.results82, go_sem, *]) rfl ⟨fun _ _ _ _ _ _ h => (by rw [HO.out] at h; cases h), fun _ => ⟨_, rfl⟩, ?_⟩
    show Acc w _
    (repeat' (first | (with_reducible first | assumption | exact Acc.refl _ | refine Acc.drew ?_ | refine Acc.drewN ?_ _ | refine Acc.alloc ?_ _ | refine Acc.setCell ?_ ?_ _) | (refine leB ?_; omega)))
  | some v =>
    obtain ⟨⟨u1, u2, u3⟩, v1, v2, v3⟩ := v
    obtain rfl := h1 _ _ _ _ _ _ ho
    have HO := Lib.hid ho
    clear h1 h2 ho
    go_wp2_with fail
    refine bodyPost_ret (v := .tuple #[.agg #[.int .i64 u1, .int .i64 u2, .int .i64 u3, .int .i64 v1, .int .i64 v2, .int .i64 v3], .nilIface]) (by simp [results, Tryd.results82, go_sem, *]) rfl ⟨fun _ _ _ _ _ _ h => (by rw [HO.out] at h; cases h; rfl), fun h => (by rw [HO.out] at h; cases h), ?_⟩
    show Acc w _
    (repeat' (first | (with_reducible first | assumption | exact Acc.refl _ | refine Acc.drew ?_ | refine Acc.drewN ?_ _ | refine Acc.alloc ?_ _ | refine Acc.setCell ?_ ?_ _) | (refine leB ?_; omega)))
set_option maxHeartbeats 1000000 in
theorem vplus_any (x1 x2 x3 y1 y2 y3 a1 a2 a3 b1 b2 b3 : Int) (hx1 : i64B x1) (hx2 : i64B x2) (hx3 : i64B x3) (hy1 : i64B y1) (hy2 : i64B y2) (hy3 : i64B y3) (ha1 : i64B a1) (ha2 : i64B a2) (ha3 : i64B a3) (hb1 : i64B b1) (hb2 : i64B b2) (hb3 : i64B b3) (w : World) :
    Calls Tryd.prog 66 #[.agg #[.int .i64 x1, .int .i64 x2, .int .i64 x3, .int .i64 y1, .int .i64 y2, .int .i64 y3], .agg #[.int .i64 a1, .int .i64 a2, .int .i64 a3, .int .i64 b1, .int .i64 b2, .int .i64 b3]] w (Erred6 (jaddF x1 x2 x3 y1 y2 y3 a1 a2 a3 b1 b2 b3) w) := by
  rw [show jaddF x1 x2 x3 y1 y2 y3 a1 a2 a3 b1 b2 b3 = pairO (sumF 1 x1 x2 x3 a1 a2 a3) (sumF 1 y1 y2 y3 b1 b2 b3) from rfl]
  have hmf : ∀ (fn : Fn) (first cap : Array Value) (w : World), (Instr.makeFunc fn first cap).run Tryd.prog w = .ok (.func fn first cap) w := fun _ _ _ _ => rfl
  go_enter Tryd.func66, Tryd.ntmps66
  go_wp2_with fail
  refine (both_plus (w.heap.size) (w.heap.size + 1) _ _ _ (fun W k => plusClo_0 (w.heap.size) (w.heap.size + 1) x1 x2 x3 y1 y2 y3 a1 a2 a3 b1 b2 b3 hx1 hx2 hx3 hy1 hy2 hy3 ha1 ha2 ha3 hb1 hb2 hb3 W (Blk.keep k (by repeat' (first | (with_reducible first | assumption | refine Blk.drew ?_ | refine Blk.drewN ?_ _ | apply Blk.set | (refine Blk.new ?_; focus (first | rfl | (simp; done))) | refine Blk.alloc ?_ _ | refine Blk.other ?_ ?_ _) | exact eqL rfl | (refine neB ?_; omega)))) (Blk.keep k (by repeat' (first | (with_reducible first | assumption | refine Blk.drew ?_ | refine Blk.drewN ?_ _ | apply Blk.set | (refine Blk.new ?_; focus (first | rfl | (simp; done))) | refine Blk.alloc ?_ _ | refine Blk.other ?_ ?_ _) | exact eqL rfl | (refine neB ?_; omega))))) (fun W k => plusClo_1 (w.heap.size) (w.heap.size + 1) x1 x2 x3 y1 y2 y3 a1 a2 a3 b1 b2 b3 hx1 hx2 hx3 hy1 hy2 hy3 ha1 ha2 ha3 hb1 hb2 hb3 W (Blk.keep k (by repeat' (first | (with_reducible first | assumption | refine Blk.drew ?_ | refine Blk.drewN ?_ _ | apply Blk.set | (refine Blk.new ?_; focus (first | rfl | (simp; done))) | refine Blk.alloc ?_ _ | refine Blk.other ?_ ?_ _) | exact eqL rfl | (refine neB ?_; omega)))) (Blk.keep k (by repeat' (first | (with_reducible first | assumption | refine Blk.drew ?_ | refine Blk.drewN ?_ _ | apply Blk.set | (refine Blk.new ?_; focus (first | rfl | (simp; done))) | refine Blk.alloc ?_ _ | refine Blk.other ?_ ?_ _) | exact eqL rfl | (refine neB ?_; omega)))))).mono ?_
  rintro e W1 ⟨h1, h2, hb⟩
  have Bb : Blk W1 (w.heap.size) [.int .i64 x1, .int .i64 x2, .int .i64 x3, .int .i64 y1, .int .i64 y2, .int .i64 y3] := Blk.keep hb (by repeat' (first | (with_reducible first | assumption | refine Blk.drew ?_ | refine Blk.drewN ?_ _ | apply Blk.set | (refine Blk.new ?_; focus (first | rfl | (simp; done))) | refine Blk.alloc ?_ _ | refine Blk.other ?_ ?_ _) | exact eqL rfl | (refine neB ?_; omega)))
  have Bc : Blk W1 (w.heap.size + 1) [.int .i64 a1, .int .i64 a2, .int .i64 a3, .int .i64 b1, .int .i64 b2, .int .i64 b3] := Blk.keep hb (by repeat' (first | (with_reducible first | assumption | refine Blk.drew ?_ | refine Blk.drewN ?_ _ | apply Blk.set | (refine Blk.new ?_; focus (first | rfl | (simp; done))) | refine Blk.alloc ?_ _ | refine Blk.other ?_ ?_ _) | exact eqL rfl | (refine neB ?_; omega)))
  have Br : Blk W1 (w.heap.size + 1 + 1) [.int .i64 0, .int .i64 0, .int .i64 0, .int .i64 0, .int .i64 0, .int .i64 0] := Blk.keep hb (by repeat' (first | (with_reducible first | assumption | refine Blk.drew ?_ | refine Blk.drewN ?_ _ | apply Blk.set | (refine Blk.new ?_; focus (first | rfl | (simp; done))) | refine Blk.alloc ?_ _ | refine Blk.other ?_ ?_ _) | exact eqL rfl | (refine neB ?_; omega)))
  have cb := Bb.cell
  have fb := Bb.free
  have lb_W1 := Bb.lt
  have cc := Bc.cell
  have fc := Bc.free
  have lc_W1 := Bc.lt
  have cr := Br.cell
  have fr := Br.free
  have lr_W1 := Br.lt
  have kaW1 : Acc w W1 := by
    refine Acc.call ?_ hb
    (repeat' (first | (with_reducible first | assumption | exact Acc.refl _ | refine Acc.drew ?_ | refine Acc.drewN ?_ _ | refine Acc.alloc ?_ _ | refine Acc.setCell ?_ ?_ _) | (refine leB ?_; omega)))
  clear hb
  cases ho : pairO (sumF 1 x1 x2 x3 a1 a2 a3) (sumF 1 y1 y2 y3 b1 b2 b3) with
  | none =>
    obtain ⟨s, rfl⟩ := h2 ho
    have HO := Lib.hid ho
    clear h1 h2 ho
    go_wp2_with fail
    refine bodyPost_ret (v := .tuple #[.agg #[.int .i64 0, .int .i64 0, .int .i64 0, .int .i64 0, .int .i64 0, .int .i64 0], .iface 104 (.agg #[.string s])]) (by simp [results, Tryd.results66, go_sem, *]) rfl ⟨fun _ _ _ _ _ _ h => (by rw [HO.out] at h; cases h), fun _ => ⟨_, rfl⟩, ?_⟩
    show Acc w _
    (repeat' (first | (with_reducible first | assumption | exact Acc.refl _ | refine Acc.drew ?_ | refine Acc.drewN ?_ _ | refine Acc.alloc ?_ _ | refine Acc.setCell ?_ ?_ _) | (refine leB ?_; omega)))
  | some v =>
    obtain ⟨⟨u1, u2, u3⟩, v1, v2, v3⟩ := v
    obtain rfl := h1 _ _ _ _ _ _ ho
    have HO := Lib.hid ho
    clear h1 h2 ho
    go_wp2_with fail
    refine bodyPost_ret (v := .tuple #[.agg #[.int .i64 u1, .int .i64 u2, .int .i64 u3, .int .i64 v1, .int .i64 v2, .int .i64 v3], .nilIface]) (by simp [results, Tryd.results66, go_sem, *]) rfl ⟨fun _ _ _ _ _ _ h => (by rw [HO.out] at h; cases h; rfl), fun h => (by rw [HO.out] at h; cases h), ?_⟩
    show Acc w _
    (repeat' (first | (with_reducible first | assumption | exact Acc.refl _ | refine Acc.drew ?_ | refine Acc.drewN ?_ _ | refine Acc.alloc ?_ _ | refine Acc.setCell ?_ ?_ _) | (refine leB ?_; omega)))
set_option maxHeartbeats 1000000 in
theorem vtimes_any (x1 x2 x3 y1 y2 y3 c1 c2 c3 : Int) (hx1 : i64B x1) (hx2 : i64B x2) (hx3 : i64B x3) (hy1 : i64B y1) (hy2 : i64B y2) (hy3 : i64B y3) (hc1 : i64B c1) (hc2 : i64B c2) (hc3 : i64B c3) (w : World) :
    Calls Tryd.prog 67 #[.agg #[.int .i64 x1, .int .i64 x2, .int .i64 x3, .int .i64 y1, .int .i64 y2, .int .i64 y3], .agg #[.int .i64 c1, .int .i64 c2, .int .i64 c3]] w (Erred6 (jtimesF x1 x2 x3 y1 y2 y3 c1 c2 c3) w) := by
  rw [show jtimesF x1 x2 x3 y1 y2 y3 c1 c2 c3 = pairO (timesF x1 x2 x3 c1 c2 c3) (timesF y1 y2 y3 c1 c2 c3) from rfl]
  have hmf : ∀ (fn : Fn) (first cap : Array Value) (w : World), (Instr.makeFunc fn first cap).run Tryd.prog w = .ok (.func fn first cap) w := fun _ _ _ _ => rfl
  go_enter Tryd.func67, Tryd.ntmps67
  go_wp2_with fail
  refine (both_times (w.heap.size) (w.heap.size + 1) _ _ _ (fun W k => timesClo_0 (w.heap.size) (w.heap.size + 1) x1 x2 x3 y1 y2 y3 c1 c2 c3 hx1 hx2 hx3 hy1 hy2 hy3 hc1 hc2 hc3 W (Blk.keep k (by repeat' (first | (with_reducible first | assumption | refine Blk.drew ?_ | refine Blk.drewN ?_ _ | apply Blk.set | (refine Blk.new ?_; focus (first | rfl | (simp; done))) | refine Blk.alloc ?_ _ | refine Blk.other ?_ ?_ _) | exact eqL rfl | (refine neB ?_; omega)))) (Blk.keep k (by repeat' (first | (with_reducible first | assumption | refine Blk.drew ?_ | refine Blk.drewN ?_ _ | apply Blk.set | (refine Blk.new ?_; focus (first | rfl | (simp; done))) | refine Blk.alloc ?_ _ | refine Blk.other ?_ ?_ _) | exact eqL rfl | (refine neB ?_; omega))))) (fun W k => timesClo_1 (w.heap.size) (w.heap.size + 1) x1 x2 x3 y1 y2 y3 c1 c2 c3 hx1 hx2 hx3 hy1 hy2 hy3 hc1 hc2 hc3 W (Blk.keep k (by repeat' (first | (with_reducible first | assumption | refine Blk.drew ?_ | refine Blk.drewN ?_ _ | apply Blk.set | (refine Blk.new ?_; focus (first | rfl | (simp; done))) | refine Blk.alloc ?_ _ | refine Blk.other ?_ ?_ _) | exact eqL rfl | (refine neB ?_; omega)))) (Blk.keep k (by repeat' (first | (with_reducible first | assumption | refine Blk.drew ?_ | refine Blk.drewN ?_ _ | apply Blk.set | (refine Blk.new ?_; focus (first | rfl | (simp; done))) | refine Blk.alloc ?_ _ | refine Blk.other ?_ ?_ _) | exact eqL rfl | (refine neB ?_; omega)))))).mono ?_
  rintro e W1 ⟨h1, h2, hb⟩
  have Bb : Blk W1 (w.heap.size) [.int .i64 x1, .int .i64 x2, .int .i64 x3, .int .i64 y1, .int .i64 y2, .int .i64 y3] := Blk.keep hb (by repeat' (first | (with_reducible first | assumption | refine Blk.drew ?_ | refine Blk.drewN ?_ _ | apply Blk.set | (refine Blk.new ?_; focus (first | rfl | (simp; done))) | refine Blk.alloc ?_ _ | refine Blk.other ?_ ?_ _) | exact eqL rfl | (refine neB ?_; omega)))
  have Bc : Blk W1 (w.heap.size + 1) [.int .i64 c1, .int .i64 c2, .int .i64 c3] := Blk.keep hb (by repeat' (first | (with_reducible first | assumption | refine Blk.drew ?_ | refine Blk.drewN ?_ _ | apply Blk.set | (refine Blk.new ?_; focus (first | rfl | (simp; done))) | refine Blk.alloc ?_ _ | refine Blk.other ?_ ?_ _) | exact eqL rfl | (refine neB ?_; omega)))
  have Br : Blk W1 (w.heap.size + 1 + 1) [.int .i64 0, .int .i64 0, .int .i64 0, .int .i64 0, .int .i64 0, .int .i64 0] := Blk.keep hb (by repeat' (first | (with_reducible first | assumption | refine Blk.drew ?_ | refine Blk.drewN ?_ _ | apply Blk.set | (refine Blk.new ?_; focus (first | rfl | (simp; done))) | refine Blk.alloc ?_ _ | refine Blk.other ?_ ?_ _) | exact eqL rfl | (refine neB ?_; omega)))
  have cb := Bb.cell
  have fb := Bb.free
  have lb_W1 := Bb.lt
  have cc := Bc.cell
  have fc := Bc.free
  have lc_W1 := Bc.lt
  have cr := Br.cell
  have fr := Br.free
  have lr_W1 := Br.lt
  have kaW1 : Acc w W1 := by
    refine Acc.call ?_ hb
    (repeat' (first | (with_reducible first | assumption | exact Acc.refl _ | refine Acc.drew ?_ | refine Acc.drewN ?_ _ | refine Acc.alloc ?_ _ | refine Acc.setCell ?_ ?_ _) | (refine leB ?_; omega)))
  clear hb
  cases ho : pairO (timesF x1 x2 x3 c1 c2 c3) (timesF y1 y2 y3 c1 c2 c3) with
  | none =>
    obtain ⟨s, rfl⟩ := h2 ho
    have HO := Lib.hid ho
    clear h1 h2 ho
    go_wp2_with fail
    refine bodyPost_ret (v := .tuple #[.agg #[.int .i64 0, .int .i64 0, .int .i64 0, .int .i64 0, .int .i64 0, .int .i64 0], .iface 104 (.agg #[.string s])]) (by simp [results, Tryd.results67, go_sem, *]) rfl ⟨fun _ _ _ _ _ _ h => (by rw [HO.out] at h; cases h), fun _ => ⟨_, rfl⟩, ?_⟩
    show Acc w _
    (repeat' (first | (with_reducible first | assumption | exact Acc.refl _ | refine Acc.drew ?_ | refine Acc.drewN ?_ _ | refine Acc.alloc ?_ _ | refine Acc.setCell ?_ ?_ _) | (refine leB ?_; omega)))
  | some v =>
    obtain ⟨⟨u1, u2, u3⟩, v1, v2, v3⟩ := v
    obtain rfl := h1 _ _ _ _ _ _ ho
    have HO := Lib.hid ho
    clear h1 h2 ho
    go_wp2_with fail
    refine bodyPost_ret (v := .tuple #[.agg #[.int .i64 u1, .int .i64 u2, .int .i64 u3, .int .i64 v1, .int .i64 v2, .int .i64 v3], .nilIface]) (by simp [results, Tryd.results67, go_sem, *]) rfl ⟨fun _ _ _ _ _ _ h => (by rw [HO.out] at h; cases h; rfl), fun h => (by rw [HO.out] at h; cases h), ?_⟩
    show Acc w _
    (repeat' (first | (with_reducible first | assumption | exact Acc.refl _ | refine Acc.drew ?_ | refine Acc.drewN ?_ _ | refine Acc.alloc ?_ _ | refine Acc.setCell ?_ ?_ _) | (refine leB ?_; omega)))
end Go.Proofs.YtbihlkienhbapabDoor
