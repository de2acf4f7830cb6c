/-
  The program's closures of matrices: vectors, filters.
-/
import Derived.Test.YtkdkeacfifjjoabGreatDoorImplM1
import Derived.Deep.RegionHeld3
namespace Go.Proofs.YtkdkeacfifjjoabGreatDoor
open Go.ChangeShapes Go.WideShapes Go.ChangeAt Go.RowKit
set_option linter.unusedVariables false

set_option maxHeartbeats 4000000 in
theorem mapplyClo_0 (b c : Nat) (a1 a2 a3 b1 b2 b3 c1 c2 c3 d1 d2 d3 x1 x2 x3 y1 y2 y3 : Int) (ha1 : i64B a1) (ha2 : i64B a2) (ha3 : i64B a3) (hb1 : i64B b1) (hb2 : i64B b2) (hb3 : i64B b3) (hc1 : i64B c1) (hc2 : i64B c2) (hc3 : i64B c3) (hd1 : i64B d1) (hd2 : i64B d2) (hd3 : i64B d3) (hx1 : i64B x1) (hx2 : i64B x2) (hx3 : i64B x3) (hy1 : i64B y1) (hy2 : i64B y2) (hy3 : i64B y3) (w : World) (Bb : Blk w b [.int .i64 a1, .int .i64 a2, .int .i64 a3, .int .i64 b1, .int .i64 b2, .int .i64 b3, .int .i64 c1, .int .i64 c2, .int .i64 c3, .int .i64 d1, .int .i64 d2, .int .i64 d3]) (Bc : Blk w c [.int .i64 x1, .int .i64 x2, .int .i64 x3, .int .i64 y1, .int .i64 y2, .int .i64 y3]) :
    Calls Tryz.prog 76 #[.int .i64 0, .pointer (some ⟨b, 0, none⟩), .pointer (some ⟨c, 0, none⟩)] w (Erred (innF a1 a2 a3 x1 x2 x3 b1 b2 b3 y1 y2 y3) w) := by
  have cb := Bb.cell
  have fb := Bb.free
  have lb_w := Bb.lt
  have cc := Bc.cell
  have fc := Bc.free
  have lc_w := Bc.lt
  cases ho : innF a1 a2 a3 x1 x2 x3 b1 b2 b3 y1 y2 y3 with
  | none =>
    have D := Lib.hid fun w => (vsum_any a1 a2 a3 b1 b2 b3 x1 x2 x3 y1 y2 y3 ha1 ha2 ha3 hb1 hb2 hb3 hx1 hx2 hx3 hy1 hy2 hy3 w).mono fun e w' h => And.intro (h.2.1 ho) h.2.2
    clear ho
    have ew0 : IntKind.i64.wrap 0 = 0 := by decide
    have ew1 : IntKind.i64.wrap 1 = 1 := by decide
    have ix0 := idxVec_0
    have ix1 := idxVec_1
    go_enter Tryz.func76, Tryz.ntmps76
    go_upto_region 1 with fail
    go_region_held3 (fun w' => (∀ k, w'.cell? ⟨b, k, none⟩ = [.int .i64 a1, .int .i64 a2, .int .i64 a3, .int .i64 b1, .int .i64 b2, .int .i64 b3, .int .i64 c1, .int .i64 c2, .int .i64 c3, .int .i64 d1, .int .i64 d2, .int .i64 d3][k]?) ∧ (∀ k, w'.cell? ⟨c, k, none⟩ = [.int .i64 x1, .int .i64 x2, .int .i64 x3, .int .i64 y1, .int .i64 y2, .int .i64 y3][k]?))
      (((try dsimp only); (refine ⟨Blk.cell ?_, Blk.cell ?_⟩ <;> (repeat' (first | (with_reducible first | assumption | refine Blk.drew ?_ | refine Blk.drewN ?_ _ | apply Blk.set | (refine Blk.new ?_; focus (first | rfl | (simp; done))) | refine Blk.alloc ?_ _ | refine Blk.other ?_ ?_ _) | exact eqL rfl | (refine neB ?_; omega))))))
      (first
        | (go_at_call 77; refine (mrow_0 a1 a2 a3 b1 b2 b3 c1 c2 c3 d1 d2 d3 _).mono ?_; rintro e W1 ⟨rfl, hb⟩; have Bb : Blk W1 (b) [.int .i64 a1, .int .i64 a2, .int .i64 a3, .int .i64 b1, .int .i64 b2, .int .i64 b3, .int .i64 c1, .int .i64 c2, .int .i64 c3, .int .i64 d1, .int .i64 d2, .int .i64 d3] := Blk.keep hb (by repeat' (first | (with_reducible first | assumption | refine Blk.drew ?_ | refine Blk.drewN ?_ _ | apply Blk.set | (refine Blk.new ?_; focus (first | rfl | (simp; done))) | refine Blk.alloc ?_ _ | refine Blk.other ?_ ?_ _) | exact eqL rfl | (refine neB ?_; omega))); have Bc : Blk W1 (c) [.int .i64 x1, .int .i64 x2, .int .i64 x3, .int .i64 y1, .int .i64 y2, .int .i64 y3] := Blk.keep hb (by repeat' (first | (with_reducible first | assumption | refine Blk.drew ?_ | refine Blk.drewN ?_ _ | apply Blk.set | (refine Blk.new ?_; focus (first | rfl | (simp; done))) | refine Blk.alloc ?_ _ | refine Blk.other ?_ ?_ _) | exact eqL rfl | (refine neB ?_; omega))); have Bz : Blk W1 (w.heap.size) [.int .i64 0, .int .i64 0, .int .i64 0] := Blk.keep hb (by repeat' (first | (with_reducible first | assumption | refine Blk.drew ?_ | refine Blk.drewN ?_ _ | apply Blk.set | (refine Blk.new ?_; focus (first | rfl | (simp; done))) | refine Blk.alloc ?_ _ | refine Blk.other ?_ ?_ _) | exact eqL rfl | (refine neB ?_; omega))); have cb := Bb.cell; have fb := Bb.free; have lb_W1 := Bb.lt; have cc := Bc.cell; have fc := Bc.free; have lc_W1 := Bc.lt; have cz := Bz.cell; have fz := Bz.free; have lz_W1 := Bz.lt; have kaW1 : Acc w W1 := (by refine Acc.call ?_ hb; (repeat' (first | (with_reducible first | assumption | exact Acc.refl _ | refine Acc.drew ?_ | refine Acc.drewN ?_ _ | refine Acc.alloc ?_ _ | refine Acc.setCell ?_ ?_ _) | (refine leB ?_; omega)))); clear hb)
        | (go_at_call 78; refine (D.out _).mono ?_; rintro e W8 ⟨⟨s, rfl⟩, hb⟩; have Bb : Blk W8 (b) [.int .i64 a1, .int .i64 a2, .int .i64 a3, .int .i64 b1, .int .i64 b2, .int .i64 b3, .int .i64 c1, .int .i64 c2, .int .i64 c3, .int .i64 d1, .int .i64 d2, .int .i64 d3] := Blk.keep hb (by repeat' (first | (with_reducible first | assumption | refine Blk.drew ?_ | refine Blk.drewN ?_ _ | apply Blk.set | (refine Blk.new ?_; focus (first | rfl | (simp; done))) | refine Blk.alloc ?_ _ | refine Blk.other ?_ ?_ _) | exact eqL rfl | (refine neB ?_; omega))); have Bc : Blk W8 (c) [.int .i64 x1, .int .i64 x2, .int .i64 x3, .int .i64 y1, .int .i64 y2, .int .i64 y3] := Blk.keep hb (by repeat' (first | (with_reducible first | assumption | refine Blk.drew ?_ | refine Blk.drewN ?_ _ | apply Blk.set | (refine Blk.new ?_; focus (first | rfl | (simp; done))) | refine Blk.alloc ?_ _ | refine Blk.other ?_ ?_ _) | exact eqL rfl | (refine neB ?_; omega))); have Bz : Blk W8 (w.heap.size) [.int .i64 0, .int .i64 0, .int .i64 0] := Blk.keep hb (by repeat' (first | (with_reducible first | assumption | refine Blk.drew ?_ | refine Blk.drewN ?_ _ | apply Blk.set | (refine Blk.new ?_; focus (first | rfl | (simp; done))) | refine Blk.alloc ?_ _ | refine Blk.other ?_ ?_ _) | exact eqL rfl | (refine neB ?_; omega))); have cb := Bb.cell; have fb := Bb.free; have lb_W8 := Bb.lt; have cc := Bc.cell; have fc := Bc.free; have lc_W8 := Bc.lt; have cz := Bz.cell; have fz := Bz.free; have lz_W8 := Bz.lt; have kaW8 : Acc w W8 := (by refine Acc.call ?_ hb; (repeat' (first | (with_reducible first | assumption | exact Acc.refl _ | refine Acc.drew ?_ | refine Acc.drewN ?_ _ | refine Acc.alloc ?_ _ | refine Acc.setCell ?_ ?_ _) | (refine leB ?_; omega)))); clear hb))
    all_goals
      go_wp2_with fail
      refine bodyPost_ret (v := .tuple #[.agg #[.int .i64 0, .int .i64 0, .int .i64 0], .iface 142 (.agg #[.string s])]) (by simp [results, Tryz.results76, go_sem, *]) rfl ⟨fun _ _ _ h => (by cases h), fun _ => ⟨_, rfl⟩, ?_⟩
      show Acc w _
      (repeat' (first | (with_reducible first | assumption | exact Acc.refl _ | refine Acc.drew ?_ | refine Acc.drewN ?_ _ | refine Acc.alloc ?_ _ | refine Acc.setCell ?_ ?_ _) | (refine leB ?_; omega)))
  | some v =>
    obtain ⟨p, q, r⟩ := v
    have D := Lib.hid fun w => (vsum_any a1 a2 a3 b1 b2 b3 x1 x2 x3 y1 y2 y3 ha1 ha2 ha3 hb1 hb2 hb3 hx1 hx2 hx3 hy1 hy2 hy3 w).mono fun e w' h => And.intro (h.1 _ _ _ ho) h.2.2
    clear ho
    have ew0 : IntKind.i64.wrap 0 = 0 := by decide
    have ew1 : IntKind.i64.wrap 1 = 1 := by decide
    have ix0 := idxVec_0
    have ix1 := idxVec_1
    go_enter Tryz.func76, Tryz.ntmps76
    go_upto_region 1 with fail
    go_region_held3 (fun w' => (∀ k, w'.cell? ⟨b, k, none⟩ = [.int .i64 a1, .int .i64 a2, .int .i64 a3, .int .i64 b1, .int .i64 b2, .int .i64 b3, .int .i64 c1, .int .i64 c2, .int .i64 c3, .int .i64 d1, .int .i64 d2, .int .i64 d3][k]?) ∧ (∀ k, w'.cell? ⟨c, k, none⟩ = [.int .i64 x1, .int .i64 x2, .int .i64 x3, .int .i64 y1, .int .i64 y2, .int .i64 y3][k]?))
      (((try dsimp only); (refine ⟨Blk.cell ?_, Blk.cell ?_⟩ <;> (repeat' (first | (with_reducible first | assumption | refine Blk.drew ?_ | refine Blk.drewN ?_ _ | apply Blk.set | (refine Blk.new ?_; focus (first | rfl | (simp; done))) | refine Blk.alloc ?_ _ | refine Blk.other ?_ ?_ _) | exact eqL rfl | (refine neB ?_; omega))))))
      (first
        | (go_at_call 77; refine (mrow_0 a1 a2 a3 b1 b2 b3 c1 c2 c3 d1 d2 d3 _).mono ?_; rintro e W1 ⟨rfl, hb⟩; have Bb : Blk W1 (b) [.int .i64 a1, .int .i64 a2, .int .i64 a3, .int .i64 b1, .int .i64 b2, .int .i64 b3, .int .i64 c1, .int .i64 c2, .int .i64 c3, .int .i64 d1, .int .i64 d2, .int .i64 d3] := Blk.keep hb (by repeat' (first | (with_reducible first | assumption | refine Blk.drew ?_ | refine Blk.drewN ?_ _ | apply Blk.set | (refine Blk.new ?_; focus (first | rfl | (simp; done))) | refine Blk.alloc ?_ _ | refine Blk.other ?_ ?_ _) | exact eqL rfl | (refine neB ?_; omega))); have Bc : Blk W1 (c) [.int .i64 x1, .int .i64 x2, .int .i64 x3, .int .i64 y1, .int .i64 y2, .int .i64 y3] := Blk.keep hb (by repeat' (first | (with_reducible first | assumption | refine Blk.drew ?_ | refine Blk.drewN ?_ _ | apply Blk.set | (refine Blk.new ?_; focus (first | rfl | (simp; done))) | refine Blk.alloc ?_ _ | refine Blk.other ?_ ?_ _) | exact eqL rfl | (refine neB ?_; omega))); have Bz : Blk W1 (w.heap.size) [.int .i64 0, .int .i64 0, .int .i64 0] := Blk.keep hb (by repeat' (first | (with_reducible first | assumption | refine Blk.drew ?_ | refine Blk.drewN ?_ _ | apply Blk.set | (refine Blk.new ?_; focus (first | rfl | (simp; done))) | refine Blk.alloc ?_ _ | refine Blk.other ?_ ?_ _) | exact eqL rfl | (refine neB ?_; omega))); have cb := Bb.cell; have fb := Bb.free; have lb_W1 := Bb.lt; have cc := Bc.cell; have fc := Bc.free; have lc_W1 := Bc.lt; have cz := Bz.cell; have fz := Bz.free; have lz_W1 := Bz.lt; have kaW1 : Acc w W1 := (by refine Acc.call ?_ hb; (repeat' (first | (with_reducible first | assumption | exact Acc.refl _ | refine Acc.drew ?_ | refine Acc.drewN ?_ _ | refine Acc.alloc ?_ _ | refine Acc.setCell ?_ ?_ _) | (refine leB ?_; omega)))); clear hb)
        | (go_at_call 78; refine (D.out _).mono ?_; rintro e W8 ⟨rfl, hb⟩; have Bb : Blk W8 (b) [.int .i64 a1, .int .i64 a2, .int .i64 a3, .int .i64 b1, .int .i64 b2, .int .i64 b3, .int .i64 c1, .int .i64 c2, .int .i64 c3, .int .i64 d1, .int .i64 d2, .int .i64 d3] := Blk.keep hb (by repeat' (first | (with_reducible first | assumption | refine Blk.drew ?_ | refine Blk.drewN ?_ _ | apply Blk.set | (refine Blk.new ?_; focus (first | rfl | (simp; done))) | refine Blk.alloc ?_ _ | refine Blk.other ?_ ?_ _) | exact eqL rfl | (refine neB ?_; omega))); have Bc : Blk W8 (c) [.int .i64 x1, .int .i64 x2, .int .i64 x3, .int .i64 y1, .int .i64 y2, .int .i64 y3] := Blk.keep hb (by repeat' (first | (with_reducible first | assumption | refine Blk.drew ?_ | refine Blk.drewN ?_ _ | apply Blk.set | (refine Blk.new ?_; focus (first | rfl | (simp; done))) | refine Blk.alloc ?_ _ | refine Blk.other ?_ ?_ _) | exact eqL rfl | (refine neB ?_; omega))); have Bz : Blk W8 (w.heap.size) [.int .i64 0, .int .i64 0, .int .i64 0] := Blk.keep hb (by repeat' (first | (with_reducible first | assumption | refine Blk.drew ?_ | refine Blk.drewN ?_ _ | apply Blk.set | (refine Blk.new ?_; focus (first | rfl | (simp; done))) | refine Blk.alloc ?_ _ | refine Blk.other ?_ ?_ _) | exact eqL rfl | (refine neB ?_; omega))); have cb := Bb.cell; have fb := Bb.free; have lb_W8 := Bb.lt; have cc := Bc.cell; have fc := Bc.free; have lc_W8 := Bc.lt; have cz := Bz.cell; have fz := Bz.free; have lz_W8 := Bz.lt; have kaW8 : Acc w W8 := (by refine Acc.call ?_ hb; (repeat' (first | (with_reducible first | assumption | exact Acc.refl _ | refine Acc.drew ?_ | refine Acc.drewN ?_ _ | refine Acc.alloc ?_ _ | refine Acc.setCell ?_ ?_ _) | (refine leB ?_; omega)))); clear hb))
    all_goals
      go_wp2_with fail
      refine bodyPost_ret (v := .tuple #[.agg #[.int .i64 p, .int .i64 q, .int .i64 r], .nilIface]) (by simp [results, Tryz.results76, go_sem, *]) rfl ⟨fun _ _ _ h => (by cases h; rfl), fun h => (by cases h), ?_⟩
      show Acc w _
      (repeat' (first | (with_reducible first | assumption | exact Acc.refl _ | refine Acc.drew ?_ | refine Acc.drewN ?_ _ | refine Acc.alloc ?_ _ | refine Acc.setCell ?_ ?_ _) | (refine leB ?_; omega)))
set_option maxHeartbeats 4000000 in
theorem mapplyClo_1 (b c : Nat) (a1 a2 a3 b1 b2 b3 c1 c2 c3 d1 d2 d3 x1 x2 x3 y1 y2 y3 : Int) (ha1 : i64B a1) (ha2 : i64B a2) (ha3 : i64B a3) (hb1 : i64B b1) (hb2 : i64B b2) (hb3 : i64B b3) (hc1 : i64B c1) (hc2 : i64B c2) (hc3 : i64B c3) (hd1 : i64B d1) (hd2 : i64B d2) (hd3 : i64B d3) (hx1 : i64B x1) (hx2 : i64B x2) (hx3 : i64B x3) (hy1 : i64B y1) (hy2 : i64B y2) (hy3 : i64B y3) (w : World) (Bb : Blk w b [.int .i64 a1, .int .i64 a2, .int .i64 a3, .int .i64 b1, .int .i64 b2, .int .i64 b3, .int .i64 c1, .int .i64 c2, .int .i64 c3, .int .i64 d1, .int .i64 d2, .int .i64 d3]) (Bc : Blk w c [.int .i64 x1, .int .i64 x2, .int .i64 x3, .int .i64 y1, .int .i64 y2, .int .i64 y3]) :
    Calls Tryz.prog 76 #[.int .i64 1, .pointer (some ⟨b, 0, none⟩), .pointer (some ⟨c, 0, none⟩)] w (Erred (innF c1 c2 c3 x1 x2 x3 d1 d2 d3 y1 y2 y3) w) := by
  have cb := Bb.cell
  have fb := Bb.free
  have lb_w := Bb.lt
  have cc := Bc.cell
  have fc := Bc.free
  have lc_w := Bc.lt
  cases ho : innF c1 c2 c3 x1 x2 x3 d1 d2 d3 y1 y2 y3 with
  | none =>
    have D := Lib.hid fun w => (vsum_any c1 c2 c3 d1 d2 d3 x1 x2 x3 y1 y2 y3 hc1 hc2 hc3 hd1 hd2 hd3 hx1 hx2 hx3 hy1 hy2 hy3 w).mono fun e w' h => And.intro (h.2.1 ho) h.2.2
    clear ho
    have ew0 : IntKind.i64.wrap 0 = 0 := by decide
    have ew1 : IntKind.i64.wrap 1 = 1 := by decide
    have ix0 := idxVec_0
    have ix1 := idxVec_1
    go_enter Tryz.func76, Tryz.ntmps76
    go_upto_region 1 with fail
    go_region_held3 (fun w' => (∀ k, w'.cell? ⟨b, k, none⟩ = [.int .i64 a1, .int .i64 a2, .int .i64 a3, .int .i64 b1, .int .i64 b2, .int .i64 b3, .int .i64 c1, .int .i64 c2, .int .i64 c3, .int .i64 d1, .int .i64 d2, .int .i64 d3][k]?) ∧ (∀ k, w'.cell? ⟨c, k, none⟩ = [.int .i64 x1, .int .i64 x2, .int .i64 x3, .int .i64 y1, .int .i64 y2, .int .i64 y3][k]?))
      (((try dsimp only); (refine ⟨Blk.cell ?_, Blk.cell ?_⟩ <;> (repeat' (first | (with_reducible first | assumption | refine Blk.drew ?_ | refine Blk.drewN ?_ _ | apply Blk.set | (refine Blk.new ?_; focus (first | rfl | (simp; done))) | refine Blk.alloc ?_ _ | refine Blk.other ?_ ?_ _) | exact eqL rfl | (refine neB ?_; omega))))))
      (first
        | (go_at_call 77; refine (mrow_1 a1 a2 a3 b1 b2 b3 c1 c2 c3 d1 d2 d3 _).mono ?_; rintro e W1 ⟨rfl, hb⟩; have Bb : Blk W1 (b) [.int .i64 a1, .int .i64 a2, .int .i64 a3, .int .i64 b1, .int .i64 b2, .int .i64 b3, .int .i64 c1, .int .i64 c2, .int .i64 c3, .int .i64 d1, .int .i64 d2, .int .i64 d3] := Blk.keep hb (by repeat' (first | (with_reducible first | assumption | refine Blk.drew ?_ | refine Blk.drewN ?_ _ | apply Blk.set | (refine Blk.new ?_; focus (first | rfl | (simp; done))) | refine Blk.alloc ?_ _ | refine Blk.other ?_ ?_ _) | exact eqL rfl | (refine neB ?_; omega))); have Bc : Blk W1 (c) [.int .i64 x1, .int .i64 x2, .int .i64 x3, .int .i64 y1, .int .i64 y2, .int .i64 y3] := Blk.keep hb (by repeat' (first | (with_reducible first | assumption | refine Blk.drew ?_ | refine Blk.drewN ?_ _ | apply Blk.set | (refine Blk.new ?_; focus (first | rfl | (simp; done))) | refine Blk.alloc ?_ _ | refine Blk.other ?_ ?_ _) | exact eqL rfl | (refine neB ?_; omega))); have Bz : Blk W1 (w.heap.size) [.int .i64 0, .int .i64 0, .int .i64 0] := Blk.keep hb (by repeat' (first | (with_reducible first | assumption | refine Blk.drew ?_ | refine Blk.drewN ?_ _ | apply Blk.set | (refine Blk.new ?_; focus (first | rfl | (simp; done))) | refine Blk.alloc ?_ _ | refine Blk.other ?_ ?_ _) | exact eqL rfl | (refine neB ?_; omega))); have cb := Bb.cell; have fb := Bb.free; have lb_W1 := Bb.lt; have cc := Bc.cell; have fc := Bc.free; have lc_W1 := Bc.lt; have cz := Bz.cell; have fz := Bz.free; have lz_W1 := Bz.lt; have kaW1 : Acc w W1 := (by refine Acc.call ?_ hb; (repeat' (first | (with_reducible first | assumption | exact Acc.refl _ | refine Acc.drew ?_ | refine Acc.drewN ?_ _ | refine Acc.alloc ?_ _ | refine Acc.setCell ?_ ?_ _) | (refine leB ?_; omega)))); clear hb)
        | (go_at_call 78; refine (D.out _).mono ?_; rintro e W8 ⟨⟨s, rfl⟩, hb⟩; have Bb : Blk W8 (b) [.int .i64 a1, .int .i64 a2, .int .i64 a3, .int .i64 b1, .int .i64 b2, .int .i64 b3, .int .i64 c1, .int .i64 c2, .int .i64 c3, .int .i64 d1, .int .i64 d2, .int .i64 d3] := Blk.keep hb (by repeat' (first | (with_reducible first | assumption | refine Blk.drew ?_ | refine Blk.drewN ?_ _ | apply Blk.set | (refine Blk.new ?_; focus (first | rfl | (simp; done))) | refine Blk.alloc ?_ _ | refine Blk.other ?_ ?_ _) | exact eqL rfl | (refine neB ?_; omega))); have Bc : Blk W8 (c) [.int .i64 x1, .int .i64 x2, .int .i64 x3, .int .i64 y1, .int .i64 y2, .int .i64 y3] := Blk.keep hb (by repeat' (first | (with_reducible first | assumption | refine Blk.drew ?_ | refine Blk.drewN ?_ _ | apply Blk.set | (refine Blk.new ?_; focus (first | rfl | (simp; done))) | refine Blk.alloc ?_ _ | refine Blk.other ?_ ?_ _) | exact eqL rfl | (refine neB ?_; omega))); have Bz : Blk W8 (w.heap.size) [.int .i64 0, .int .i64 0, .int .i64 0] := Blk.keep hb (by repeat' (first | (with_reducible first | assumption | refine Blk.drew ?_ | refine Blk.drewN ?_ _ | apply Blk.set | (refine Blk.new ?_; focus (first | rfl | (simp; done))) | refine Blk.alloc ?_ _ | refine Blk.other ?_ ?_ _) | exact eqL rfl | (refine neB ?_; omega))); have cb := Bb.cell; have fb := Bb.free; have lb_W8 := Bb.lt; have cc := Bc.cell; have fc := Bc.free; have lc_W8 := Bc.lt; have cz := Bz.cell; have fz := Bz.free; have lz_W8 := Bz.lt; have kaW8 : Acc w W8 := (by refine Acc.call ?_ hb; (repeat' (first | (with_reducible first | assumption | exact Acc.refl _ | refine Acc.drew ?_ | refine Acc.drewN ?_ _ | refine Acc.alloc ?_ _ | refine Acc.setCell ?_ ?_ _) | (refine leB ?_; omega)))); clear hb))
    all_goals
      go_wp2_with fail
      refine bodyPost_ret (v := .tuple #[.agg #[.int .i64 0, .int .i64 0, .int .i64 0], .iface 142 (.agg #[.string s])]) (by simp [results, Tryz.results76, go_sem, *]) rfl ⟨fun _ _ _ h => (by cases h), fun _ => ⟨_, rfl⟩, ?_⟩
      show Acc w _
      (repeat' (first | (with_reducible first | assumption | exact Acc.refl _ | refine Acc.drew ?_ | refine Acc.drewN ?_ _ | refine Acc.alloc ?_ _ | refine Acc.setCell ?_ ?_ _) | (refine leB ?_; omega)))
  | some v =>
    obtain ⟨p, q, r⟩ := v
    have D := Lib.hid fun w => (vsum_any c1 c2 c3 d1 d2 d3 x1 x2 x3 y1 y2 y3 hc1 hc2 hc3 hd1 hd2 hd3 hx1 hx2 hx3 hy1 hy2 hy3 w).mono fun e w' h => And.intro (h.1 _ _ _ ho) h.2.2
    clear ho
    have ew0 : IntKind.i64.wrap 0 = 0 := by decide
    have ew1 : IntKind.i64.wrap 1 = 1 := by decide
    have ix0 := idxVec_0
    have ix1 := idxVec_1
    go_enter Tryz.func76, Tryz.ntmps76
    go_upto_region 1 with fail
    go_region_held3 (fun w' => (∀ k, w'.cell? ⟨b, k, none⟩ = [.int .i64 a1, .int .i64 a2, .int .i64 a3, .int .i64 b1, .int .i64 b2, .int .i64 b3, .int .i64 c1, .int .i64 c2, .int .i64 c3, .int .i64 d1, .int .i64 d2, .int .i64 d3][k]?) ∧ (∀ k, w'.cell? ⟨c, k, none⟩ = [.int .i64 x1, .int .i64 x2, .int .i64 x3, .int .i64 y1, .int .i64 y2, .int .i64 y3][k]?))
      (((try dsimp only); (refine ⟨Blk.cell ?_, Blk.cell ?_⟩ <;> (repeat' (first | (with_reducible first | assumption | refine Blk.drew ?_ | refine Blk.drewN ?_ _ | apply Blk.set | (refine Blk.new ?_; focus (first | rfl | (simp; done))) | refine Blk.alloc ?_ _ | refine Blk.other ?_ ?_ _) | exact eqL rfl | (refine neB ?_; omega))))))
      (first
        | (go_at_call 77; refine (mrow_1 a1 a2 a3 b1 b2 b3 c1 c2 c3 d1 d2 d3 _).mono ?_; rintro e W1 ⟨rfl, hb⟩; have Bb : Blk W1 (b) [.int .i64 a1, .int .i64 a2, .int .i64 a3, .int .i64 b1, .int .i64 b2, .int .i64 b3, .int .i64 c1, .int .i64 c2, .int .i64 c3, .int .i64 d1, .int .i64 d2, .int .i64 d3] := Blk.keep hb (by repeat' (first | (with_reducible first | assumption | refine Blk.drew ?_ | refine Blk.drewN ?_ _ | apply Blk.set | (refine Blk.new ?_; focus (first | rfl | (simp; done))) | refine Blk.alloc ?_ _ | refine Blk.other ?_ ?_ _) | exact eqL rfl | (refine neB ?_; omega))); have Bc : Blk W1 (c) [.int .i64 x1, .int .i64 x2, .int .i64 x3, .int .i64 y1, .int .i64 y2, .int .i64 y3] := Blk.keep hb (by repeat' (first | (with_reducible first | assumption | refine Blk.drew ?_ | refine Blk.drewN ?_ _ | apply Blk.set | (refine Blk.new ?_; focus (first | rfl | (simp; done))) | refine Blk.alloc ?_ _ | refine Blk.other ?_ ?_ _) | exact eqL rfl | (refine neB ?_; omega))); have Bz : Blk W1 (w.heap.size) [.int .i64 0, .int .i64 0, .int .i64 0] := Blk.keep hb (by repeat' (first | (with_reducible first | assumption | refine Blk.drew ?_ | refine Blk.drewN ?_ _ | apply Blk.set | (refine Blk.new ?_; focus (first | rfl | (simp; done))) | refine Blk.alloc ?_ _ | refine Blk.other ?_ ?_ _) | exact eqL rfl | (refine neB ?_; omega))); have cb := Bb.cell; have fb := Bb.free; have lb_W1 := Bb.lt; have cc := Bc.cell; have fc := Bc.free; have lc_W1 := Bc.lt; have cz := Bz.cell; have fz := Bz.free; have lz_W1 := Bz.lt; have kaW1 : Acc w W1 := (by refine Acc.call ?_ hb; (repeat' (first | (with_reducible first | assumption | exact Acc.refl _ | refine Acc.drew ?_ | refine Acc.drewN ?_ _ | refine Acc.alloc ?_ _ | refine Acc.setCell ?_ ?_ _) | (refine leB ?_; omega)))); clear hb)
        | (go_at_call 78; refine (D.out _).mono ?_; rintro e W8 ⟨rfl, hb⟩; have Bb : Blk W8 (b) [.int .i64 a1, .int .i64 a2, .int .i64 a3, .int .i64 b1, .int .i64 b2, .int .i64 b3, .int .i64 c1, .int .i64 c2, .int .i64 c3, .int .i64 d1, .int .i64 d2, .int .i64 d3] := Blk.keep hb (by repeat' (first | (with_reducible first | assumption | refine Blk.drew ?_ | refine Blk.drewN ?_ _ | apply Blk.set | (refine Blk.new ?_; focus (first | rfl | (simp; done))) | refine Blk.alloc ?_ _ | refine Blk.other ?_ ?_ _) | exact eqL rfl | (refine neB ?_; omega))); have Bc : Blk W8 (c) [.int .i64 x1, .int .i64 x2, .int .i64 x3, .int .i64 y1, .int .i64 y2, .int .i64 y3] := Blk.keep hb (by repeat' (first | (with_reducible first | assumption | refine Blk.drew ?_ | refine Blk.drewN ?_ _ | apply Blk.set | (refine Blk.new ?_; focus (first | rfl | (simp; done))) | refine Blk.alloc ?_ _ | refine Blk.other ?_ ?_ _) | exact eqL rfl | (refine neB ?_; omega))); have Bz : Blk W8 (w.heap.size) [.int .i64 0, .int .i64 0, .int .i64 0] := Blk.keep hb (by repeat' (first | (with_reducible first | assumption | refine Blk.drew ?_ | refine Blk.drewN ?_ _ | apply Blk.set | (refine Blk.new ?_; focus (first | rfl | (simp; done))) | refine Blk.alloc ?_ _ | refine Blk.other ?_ ?_ _) | exact eqL rfl | (refine neB ?_; omega))); have cb := Bb.cell; have fb := Bb.free; have lb_W8 := Bb.lt; have cc := Bc.cell; have fc := Bc.free; have lc_W8 := Bc.lt; have cz := Bz.cell; have fz := Bz.free; have lz_W8 := Bz.lt; have kaW8 : Acc w W8 := (by refine Acc.call ?_ hb; (repeat' (first | (with_reducible first | assumption | exact Acc.refl _ | refine Acc.drew ?_ | refine Acc.drewN ?_ _ | refine Acc.alloc ?_ _ | refine Acc.setCell ?_ ?_ _) | (refine leB ?_; omega)))); clear hb))
    all_goals
      go_wp2_with fail
      refine bodyPost_ret (v := .tuple #[.agg #[.int .i64 p, .int .i64 q, .int .i64 r], .nilIface]) (by simp [results, Tryz.results76, go_sem, *]) rfl ⟨fun _ _ _ h => (by cases h; rfl), fun h => (by cases h), ?_⟩
      show Acc w _
      (repeat' (first | (with_reducible first | assumption | exact Acc.refl _ | refine Acc.drew ?_ | refine Acc.drewN ?_ _ | refine Acc.alloc ?_ _ | refine Acc.setCell ?_ ?_ _) | (refine leB ?_; omega)))
set_option maxHeartbeats 2000000 in
theorem both_mapply (b c : Nat) (o p : Option (Int × Int × Int)) (w : World)
    (K : ∀ W, Acc w W → Calls Tryz.prog 76 #[.int .i64 0, .pointer (some ⟨b, 0, none⟩), .pointer (some ⟨c, 0, none⟩)] W (Erred o W)) (L : ∀ W, Acc w W → Calls Tryz.prog 76 #[.int .i64 1, .pointer (some ⟨b, 0, none⟩), .pointer (some ⟨c, 0, none⟩)] W (Erred p W)) :
    Calls Tryz.prog 75 #[.func (.func 76) #[] #[.pointer (some ⟨b, 0, none⟩), .pointer (some ⟨c, 0, none⟩)]] w (Erred6 (pairO o p) w) := by
  have HK := Lib.hid K
  have HL := Lib.hid L
  clear K L
  cases o with
  | none =>
    rw [show pairO none p = none by simp [pairO, okR]]
    go_enter Tryz.func75, Tryz.ntmps75
    go_wp2_with fail
    refine wp_loop_rounds 3 ?_
    rw [rounds_succ]
    go_wp2_with fail
    refine (HK.out _ (by repeat' (first | (with_reducible first | assumption | exact Acc.refl _ | refine Acc.drew ?_ | refine Acc.drewN ?_ _ | refine Acc.alloc ?_ _ | refine Acc.setCell ?_ ?_ _) | (refine leB ?_; omega)))).mono ?_
    rintro e W1 ⟨-, h, hb⟩
    obtain ⟨s, rfl⟩ := h rfl
    clear h
    obtain ⟨Br, Bp⟩ : Blk W1 (w.heap.size) [.int .i64 0, .int .i64 0, .int .i64 0, .int .i64 0, .int .i64 0, .int .i64 0] ∧ Blk W1 (w.heap.size + 1) [.int .i64 0, .int .i64 0, .int .i64 0, .int .i64 0, .int .i64 0, .int .i64 0] := by
      refine ⟨?_, ?_⟩ <;> refine Blk.keep hb ?_ <;> (repeat' (first | (with_reducible first | assumption | refine Blk.drew ?_ | refine Blk.drewN ?_ _ | apply Blk.set | (refine Blk.new ?_; focus (first | rfl | (simp; done))) | refine Blk.alloc ?_ _ | refine Blk.other ?_ ?_ _) | exact eqL rfl | (refine neB ?_; omega)))
    have cr := Br.cell
    have fr := Br.free
    have lr_W1 := Br.lt
    have cp := Bp.cell
    have fp := Bp.free
    have lp_W1 := Bp.lt
    have kaW1 : Acc w W1 := by
      refine Acc.call ?_ hb
      (repeat' (first | (with_reducible first | assumption | exact Acc.refl _ | refine Acc.drew ?_ | refine Acc.drewN ?_ _ | refine Acc.alloc ?_ _ | refine Acc.setCell ?_ ?_ _) | (refine leB ?_; omega)))
    clear hb
    go_wp2_with fail
    refine bodyPost_ret (v := .tuple #[.agg #[.int .i64 0, .int .i64 0, .int .i64 0, .int .i64 0, .int .i64 0, .int .i64 0], .iface 142 (.agg #[.string s])]) (by simp [results, Tryz.results75, go_sem, *]) rfl ⟨fun _ _ _ _ _ _ h => (by cases h), fun _ => ⟨_, rfl⟩, ?_⟩
    show Acc w _
    (repeat' (first | (with_reducible first | assumption | exact Acc.refl _ | refine Acc.drew ?_ | refine Acc.drewN ?_ _ | refine Acc.alloc ?_ _ | refine Acc.setCell ?_ ?_ _) | (refine leB ?_; omega)))
  | some u =>
    obtain ⟨u1, u2, u3⟩ := u
    cases p with
    | none =>
      rw [show pairO (some (u1, u2, u3)) none = none by simp [pairO, okR]]
      go_enter Tryz.func75, Tryz.ntmps75
      go_wp2_with fail
      refine wp_loop_rounds 3 ?_
      rw [rounds_succ]
      go_wp2_with fail
      refine (HK.out _ (by repeat' (first | (with_reducible first | assumption | exact Acc.refl _ | refine Acc.drew ?_ | refine Acc.drewN ?_ _ | refine Acc.alloc ?_ _ | refine Acc.setCell ?_ ?_ _) | (refine leB ?_; omega)))).mono ?_
      rintro e W1 ⟨h, -, hb⟩
      obtain rfl := h _ _ _ rfl
      clear h
      obtain ⟨Br, Bp⟩ : Blk W1 (w.heap.size) [.int .i64 0, .int .i64 0, .int .i64 0, .int .i64 0, .int .i64 0, .int .i64 0] ∧ Blk W1 (w.heap.size + 1) [.int .i64 0, .int .i64 0, .int .i64 0, .int .i64 0, .int .i64 0, .int .i64 0] := by
        refine ⟨?_, ?_⟩ <;> refine Blk.keep hb ?_ <;> (repeat' (first | (with_reducible first | assumption | refine Blk.drew ?_ | refine Blk.drewN ?_ _ | apply Blk.set | (refine Blk.new ?_; focus (first | rfl | (simp; done))) | refine Blk.alloc ?_ _ | refine Blk.other ?_ ?_ _) | exact eqL rfl | (refine neB ?_; omega)))
      have cr := Br.cell
      have fr := Br.free
      have lr_W1 := Br.lt
      have cp := Bp.cell
      have fp := Bp.free
      have lp_W1 := Bp.lt
      have kaW1 : Acc w W1 := by
        refine Acc.call ?_ hb
        (repeat' (first | (with_reducible first | assumption | exact Acc.refl _ | refine Acc.drew ?_ | refine Acc.drewN ?_ _ | refine Acc.alloc ?_ _ | refine Acc.setCell ?_ ?_ _) | (refine leB ?_; omega)))
      clear hb
      go_wp2_with fail
      rw [rounds_succ]
      go_wp2_with fail
      refine (HL.out _ (by repeat' (first | (with_reducible first | assumption | exact Acc.refl _ | refine Acc.drew ?_ | refine Acc.drewN ?_ _ | refine Acc.alloc ?_ _ | refine Acc.setCell ?_ ?_ _) | (refine leB ?_; omega)))).mono ?_
      rintro e W2 ⟨-, h, hb⟩
      obtain ⟨s, rfl⟩ := h rfl
      clear h
      obtain ⟨Br, Bp⟩ : Blk W2 (w.heap.size) [.int .i64 0, .int .i64 0, .int .i64 0, .int .i64 0, .int .i64 0, .int .i64 0] ∧ Blk W2 (w.heap.size + 1) [.int .i64 u1, .int .i64 u2, .int .i64 u3, .int .i64 0, .int .i64 0, .int .i64 0] := by
        refine ⟨?_, ?_⟩ <;> refine Blk.keep hb ?_ <;> (repeat' (first | (with_reducible first | assumption | refine Blk.drew ?_ | refine Blk.drewN ?_ _ | apply Blk.set | (refine Blk.new ?_; focus (first | rfl | (simp; done))) | refine Blk.alloc ?_ _ | refine Blk.other ?_ ?_ _) | exact eqL rfl | (refine neB ?_; omega)))
      have cr := Br.cell
      have fr := Br.free
      have lr_W2 := Br.lt
      have cp := Bp.cell
      have fp := Bp.free
      have lp_W2 := Bp.lt
      have kaW2 : Acc w W2 := by
        refine Acc.call ?_ hb
        (repeat' (first | (with_reducible first | assumption | exact Acc.refl _ | refine Acc.drew ?_ | refine Acc.drewN ?_ _ | refine Acc.alloc ?_ _ | refine Acc.setCell ?_ ?_ _) | (refine leB ?_; omega)))
      clear hb
      go_wp2_with fail
      refine bodyPost_ret (v := .tuple #[.agg #[.int .i64 0, .int .i64 0, .int .i64 0, .int .i64 0, .int .i64 0, .int .i64 0], .iface 142 (.agg #[.string s])]) (by simp [results, Tryz.results75, go_sem, *]) rfl ⟨fun _ _ _ _ _ _ h => (by cases h), fun _ => ⟨_, rfl⟩, ?_⟩
      show Acc w _
      (repeat' (first | (with_reducible first | assumption | exact Acc.refl _ | refine Acc.drew ?_ | refine Acc.drewN ?_ _ | refine Acc.alloc ?_ _ | refine Acc.setCell ?_ ?_ _) | (refine leB ?_; omega)))
    | some v =>
      obtain ⟨v1, v2, v3⟩ := v
      rw [show pairO (some (u1, u2, u3)) (some (v1, v2, v3)) = some ((u1, u2, u3), (v1, v2, v3)) by simp [pairO, okR, partsR]]
      go_enter Tryz.func75, Tryz.ntmps75
      go_wp2_with fail
      refine wp_loop_rounds 3 ?_
      rw [rounds_succ]
      go_wp2_with fail
      refine (HK.out _ (by repeat' (first | (with_reducible first | assumption | exact Acc.refl _ | refine Acc.drew ?_ | refine Acc.drewN ?_ _ | refine Acc.alloc ?_ _ | refine Acc.setCell ?_ ?_ _) | (refine leB ?_; omega)))).mono ?_
      rintro e W1 ⟨h, -, hb⟩
      obtain rfl := h _ _ _ rfl
      clear h
      obtain ⟨Br, Bp⟩ : Blk W1 (w.heap.size) [.int .i64 0, .int .i64 0, .int .i64 0, .int .i64 0, .int .i64 0, .int .i64 0] ∧ Blk W1 (w.heap.size + 1) [.int .i64 0, .int .i64 0, .int .i64 0, .int .i64 0, .int .i64 0, .int .i64 0] := by
        refine ⟨?_, ?_⟩ <;> refine Blk.keep hb ?_ <;> (repeat' (first | (with_reducible first | assumption | refine Blk.drew ?_ | refine Blk.drewN ?_ _ | apply Blk.set | (refine Blk.new ?_; focus (first | rfl | (simp; done))) | refine Blk.alloc ?_ _ | refine Blk.other ?_ ?_ _) | exact eqL rfl | (refine neB ?_; omega)))
      have cr := Br.cell
      have fr := Br.free
      have lr_W1 := Br.lt
      have cp := Bp.cell
      have fp := Bp.free
      have lp_W1 := Bp.lt
      have kaW1 : Acc w W1 := by
        refine Acc.call ?_ hb
        (repeat' (first | (with_reducible first | assumption | exact Acc.refl _ | refine Acc.drew ?_ | refine Acc.drewN ?_ _ | refine Acc.alloc ?_ _ | refine Acc.setCell ?_ ?_ _) | (refine leB ?_; omega)))
      clear hb
      go_wp2_with fail
      rw [rounds_succ]
      go_wp2_with fail
      refine (HL.out _ (by repeat' (first | (with_reducible first | assumption | exact Acc.refl _ | refine Acc.drew ?_ | refine Acc.drewN ?_ _ | refine Acc.alloc ?_ _ | refine Acc.setCell ?_ ?_ _) | (refine leB ?_; omega)))).mono ?_
      rintro e W2 ⟨h, -, hb⟩
      obtain rfl := h _ _ _ rfl
      clear h
      obtain ⟨Br, Bp⟩ : Blk W2 (w.heap.size) [.int .i64 0, .int .i64 0, .int .i64 0, .int .i64 0, .int .i64 0, .int .i64 0] ∧ Blk W2 (w.heap.size + 1) [.int .i64 u1, .int .i64 u2, .int .i64 u3, .int .i64 0, .int .i64 0, .int .i64 0] := by
        refine ⟨?_, ?_⟩ <;> refine Blk.keep hb ?_ <;> (repeat' (first | (with_reducible first | assumption | refine Blk.drew ?_ | refine Blk.drewN ?_ _ | apply Blk.set | (refine Blk.new ?_; focus (first | rfl | (simp; done))) | refine Blk.alloc ?_ _ | refine Blk.other ?_ ?_ _) | exact eqL rfl | (refine neB ?_; omega)))
      have cr := Br.cell
      have fr := Br.free
      have lr_W2 := Br.lt
      have cp := Bp.cell
      have fp := Bp.free
      have lp_W2 := Bp.lt
      have kaW2 : Acc w W2 := by
        refine Acc.call ?_ hb
        (repeat' (first | (with_reducible first | assumption | exact Acc.refl _ | refine Acc.drew ?_ | refine Acc.drewN ?_ _ | refine Acc.alloc ?_ _ | refine Acc.setCell ?_ ?_ _) | (refine leB ?_; omega)))
      clear hb
      go_wp2_with fail
      rw [rounds_succ]
      go_wp2_with fail
      refine bodyPost_ret (v := .tuple #[.agg #[.int .i64 u1, .int .i64 u2, .int .i64 u3, .int .i64 v1, .int .i64 v2, .int .i64 v3], .nilIface]) (by simp [results, Tryz.results75, go_sem, *]) rfl ⟨fun _ _ _ _ _ _ h => (by cases h; rfl), fun h => (by cases h), ?_⟩
      show Acc w _
      (repeat' (first | (with_reducible first | assumption | exact Acc.refl _ | refine Acc.drew ?_ | refine Acc.drewN ?_ _ | refine Acc.alloc ?_ _ | refine Acc.setCell ?_ ?_ _) | (refine leB ?_; omega)))
end Go.Proofs.YtkdkeacfifjjoabGreatDoor
