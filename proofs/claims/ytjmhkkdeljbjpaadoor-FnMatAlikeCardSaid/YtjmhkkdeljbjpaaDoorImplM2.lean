/-
  The program's methods of matrices.
-/
import Derived.Test.YtjmhkkdeljbjpaaDoorImplM1t
import Derived.Test.YtjmhkkdeljbjpaaDoorImplM1a
import Derived.Test.YtjmhkkdeljbjpaaDoorImplM1v
namespace Go.Proofs.YtjmhkkdeljbjpaaDoor
open Go.ChangeShapes Go.WideShapes Go.ChangeAt Go.RowKit
set_option linter.unusedVariables false

set_option maxHeartbeats 4000000 in
theorem mxapply_any (a1 a2 a3 b1 b2 b3 c1 c2 c3 d1 d2 d3 x1 x2 x3 y1 y2 y3 : Int) (ha1 : i64B a1) (ha2 : i64B a2) (ha3 : i64B a3) (hb1 : i64B b1) (hb2 : i64B b2) (hb3 : i64B b3) (hc1 : i64B c1) (hc2 : i64B c2) (hc3 : i64B c3) (hd1 : i64B d1) (hd2 : i64B d2) (hd3 : i64B d3) (hx1 : i64B x1) (hx2 : i64B x2) (hx3 : i64B x3) (hy1 : i64B y1) (hy2 : i64B y2) (hy3 : i64B y3) (w : World) :
    Calls Tryd.prog 33 #[.agg #[.int .i64 a1, .int .i64 a2, .int .i64 a3, .int .i64 b1, .int .i64 b2, .int .i64 b3, .int .i64 c1, .int .i64 c2, .int .i64 c3, .int .i64 d1, .int .i64 d2, .int .i64 d3], .agg #[.int .i64 x1, .int .i64 x2, .int .i64 x3, .int .i64 y1, .int .i64 y2, .int .i64 y3]] w (Erred6 (appM ((a1, a2, a3), (b1, b2, b3), (c1, c2, c3), (d1, d2, d3)) ((x1, x2, x3), (y1, y2, y3))) w) := by
  rw [show appM ((a1, a2, a3), (b1, b2, b3), (c1, c2, c3), (d1, d2, d3)) ((x1, x2, x3), (y1, y2, y3)) = pairO (innF a1 a2 a3 x1 x2 x3 b1 b2 b3 y1 y2 y3) (innF c1 c2 c3 x1 x2 x3 d1 d2 d3 y1 y2 y3) from rfl]
  have hmf : ∀ (fn : Fn) (first cap : Array Value) (w : World), (Instr.makeFunc fn first cap).run Tryd.prog w = .ok (.func fn first cap) w := fun _ _ _ _ => rfl
  go_enter Tryd.func33, Tryd.ntmps33
  go_wp2_with fail
  refine (both_mapply (w.heap.size) (w.heap.size + 1) _ _ _ (fun W k => mapplyClo_0 (w.heap.size) (w.heap.size + 1) a1 a2 a3 b1 b2 b3 c1 c2 c3 d1 d2 d3 x1 x2 x3 y1 y2 y3 ha1 ha2 ha3 hb1 hb2 hb3 hc1 hc2 hc3 hd1 hd2 hd3 hx1 hx2 hx3 hy1 hy2 hy3 W (Blk.keep k (by repeat' (first | (with_reducible first | assumption | refine Blk.drew ?_ | refine Blk.drewN ?_ _ | apply Blk.set | (refine Blk.new ?_; focus (first | rfl | (simp; done))) | refine Blk.alloc ?_ _ | refine Blk.other ?_ ?_ _) | exact eqL rfl | (refine neB ?_; omega)))) (Blk.keep k (by repeat' (first | (with_reducible first | assumption | refine Blk.drew ?_ | refine Blk.drewN ?_ _ | apply Blk.set | (refine Blk.new ?_; focus (first | rfl | (simp; done))) | refine Blk.alloc ?_ _ | refine Blk.other ?_ ?_ _) | exact eqL rfl | (refine neB ?_; omega))))) (fun W k => mapplyClo_1 (w.heap.size) (w.heap.size + 1) a1 a2 a3 b1 b2 b3 c1 c2 c3 d1 d2 d3 x1 x2 x3 y1 y2 y3 ha1 ha2 ha3 hb1 hb2 hb3 hc1 hc2 hc3 hd1 hd2 hd3 hx1 hx2 hx3 hy1 hy2 hy3 W (Blk.keep k (by repeat' (first | (with_reducible first | assumption | refine Blk.drew ?_ | refine Blk.drewN ?_ _ | apply Blk.set | (refine Blk.new ?_; focus (first | rfl | (simp; done))) | refine Blk.alloc ?_ _ | refine Blk.other ?_ ?_ _) | exact eqL rfl | (refine neB ?_; omega)))) (Blk.keep k (by repeat' (first | (with_reducible first | assumption | refine Blk.drew ?_ | refine Blk.drewN ?_ _ | apply Blk.set | (refine Blk.new ?_; focus (first | rfl | (simp; done))) | refine Blk.alloc ?_ _ | refine Blk.other ?_ ?_ _) | exact eqL rfl | (refine neB ?_; omega)))))).mono ?_
  rintro e W1 ⟨h1, h2, hb⟩
  obtain ⟨Bb, Bc, Bz⟩ : Blk W1 (w.heap.size) [.int .i64 a1, .int .i64 a2, .int .i64 a3, .int .i64 b1, .int .i64 b2, .int .i64 b3, .int .i64 c1, .int .i64 c2, .int .i64 c3, .int .i64 d1, .int .i64 d2, .int .i64 d3] ∧ Blk W1 (w.heap.size + 1) [.int .i64 x1, .int .i64 x2, .int .i64 x3, .int .i64 y1, .int .i64 y2, .int .i64 y3] ∧ Blk W1 (w.heap.size + 1 + 1) [.int .i64 0, .int .i64 0, .int .i64 0, .int .i64 0, .int .i64 0, .int .i64 0] := by
    refine ⟨?_, ?_, ?_⟩ <;> refine Blk.keep hb ?_ <;> (repeat' (first | (with_reducible first | assumption | refine Blk.drew ?_ | refine Blk.drewN ?_ _ | apply Blk.set | (refine Blk.new ?_; focus (first | rfl | (simp; done))) | refine Blk.alloc ?_ _ | refine Blk.other ?_ ?_ _) | exact eqL rfl | (refine neB ?_; omega)))
  have cb := Bb.cell
  have fb := Bb.free
  have lb_W1 := Bb.lt
  have cc := Bc.cell
  have fc := Bc.free
  have lc_W1 := Bc.lt
  have cz := Bz.cell
  have fz := Bz.free
  have lz_W1 := Bz.lt
  have kaW1 : Acc w W1 := by
    refine Acc.call ?_ hb
    (repeat' (first | (with_reducible first | assumption | exact Acc.refl _ | refine Acc.drew ?_ | refine Acc.drewN ?_ _ | refine Acc.alloc ?_ _ | refine Acc.setCell ?_ ?_ _) | (refine leB ?_; omega)))
  clear hb
  cases ho : pairO (innF a1 a2 a3 x1 x2 x3 b1 b2 b3 y1 y2 y3) (innF c1 c2 c3 x1 x2 x3 d1 d2 d3 y1 y2 y3) with
  | none =>
    obtain ⟨s, rfl⟩ := h2 ho
    have HO := Lib.hid ho
    clear h1 h2 ho
    go_wp2_with fail
    refine bodyPost_ret (v := .tuple #[.agg #[.int .i64 0, .int .i64 0, .int .i64 0, .int .i64 0, .int .i64 0, .int .i64 0], .iface 115 (.agg #[.string s])]) (by simp [results, Tryd.results33, go_sem, *]) rfl ⟨fun _ _ _ _ _ _ h => (by rw [HO.out] at h; cases h), fun _ => ⟨_, rfl⟩, ?_⟩
    show Acc w _
    (repeat' (first | (with_reducible first | assumption | exact Acc.refl _ | refine Acc.drew ?_ | refine Acc.drewN ?_ _ | refine Acc.alloc ?_ _ | refine Acc.setCell ?_ ?_ _) | (refine leB ?_; omega)))
  | some v =>
    obtain ⟨⟨p1, p2, p3⟩, r1, r2, r3⟩ := v
    obtain rfl := h1 _ _ _ _ _ _ ho
    have HO := Lib.hid ho
    clear h1 h2 ho
    go_wp2_with fail
    refine bodyPost_ret (v := .tuple #[.agg #[.int .i64 p1, .int .i64 p2, .int .i64 p3, .int .i64 r1, .int .i64 r2, .int .i64 r3], .nilIface]) (by simp [results, Tryd.results33, go_sem, *]) rfl ⟨fun _ _ _ _ _ _ h => (by rw [HO.out] at h; cases h; rfl), fun h => (by rw [HO.out] at h; cases h), ?_⟩
    show Acc w _
    (repeat' (first | (with_reducible first | assumption | exact Acc.refl _ | refine Acc.drew ?_ | refine Acc.drewN ?_ _ | refine Acc.alloc ?_ _ | refine Acc.setCell ?_ ?_ _) | (refine leB ?_; omega)))
end Go.Proofs.YtjmhkkdeljbjpaaDoor
