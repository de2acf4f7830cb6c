/-
  The program's matrices: closures, methods.
-/
import Derived.Test.YtkdkeacfifjjoabGreatDoorImplM1
import Derived.Deep.RegionHeld3
namespace Go.Proofs.YtkdkeacfifjjoabGreatDoor
open Go.ChangeShapes Go.WideShapes Go.ChangeAt Go.RowKit
set_option linter.unusedVariables false

set_option maxHeartbeats 4000000 in
theorem mtimesClo_00 (b c : Nat) (a1 a2 a3 b1 b2 b3 c1 c2 c3 d1 d2 d3 i1 i2 i3 j1 j2 j3 k1 k2 k3 l1 l2 l3 : Int) (ha1 : i64B a1) (ha2 : i64B a2) (ha3 : i64B a3) (hb1 : i64B b1) (hb2 : i64B b2) (hb3 : i64B b3) (hc1 : i64B c1) (hc2 : i64B c2) (hc3 : i64B c3) (hd1 : i64B d1) (hd2 : i64B d2) (hd3 : i64B d3) (hi1 : i64B i1) (hi2 : i64B i2) (hi3 : i64B i3) (hj1 : i64B j1) (hj2 : i64B j2) (hj3 : i64B j3) (hk1 : i64B k1) (hk2 : i64B k2) (hk3 : i64B k3) (hl1 : i64B l1) (hl2 : i64B l2) (hl3 : i64B l3) (w : World) (Bb : Blk w b [.int .i64 a1, .int .i64 a2, .int .i64 a3, .int .i64 b1, .int .i64 b2, .int .i64 b3, .int .i64 c1, .int .i64 c2, .int .i64 c3, .int .i64 d1, .int .i64 d2, .int .i64 d3]) (Bc : Blk w c [.int .i64 i1, .int .i64 i2, .int .i64 i3, .int .i64 j1, .int .i64 j2, .int .i64 j3, .int .i64 k1, .int .i64 k2, .int .i64 k3, .int .i64 l1, .int .i64 l2, .int .i64 l3]) :
    Calls Tryz.prog 104 #[.int .i64 0, .int .i64 0, .pointer (some ⟨b, 0, none⟩), .pointer (some ⟨c, 0, none⟩)] w (Erred (innF a1 a2 a3 i1 i2 i3 b1 b2 b3 k1 k2 k3) w) := by
  have cb := Bb.cell
  have fb := Bb.free
  have lb_w := Bb.lt
  have cc := Bc.cell
  have fc := Bc.free
  have lc_w := Bc.lt
  cases ho : innF a1 a2 a3 i1 i2 i3 b1 b2 b3 k1 k2 k3 with
  | none =>
    have D := Lib.hid fun w => (vsum_any a1 a2 a3 b1 b2 b3 i1 i2 i3 k1 k2 k3 ha1 ha2 ha3 hb1 hb2 hb3 hi1 hi2 hi3 hk1 hk2 hk3 w).mono fun e w' h => And.intro (h.2.1 ho) h.2.2
    clear ho
    have ew0 : IntKind.i64.wrap 0 = 0 := by decide
    have ew1 : IntKind.i64.wrap 1 = 1 := by decide
    have ix0 := idxVec_0
    have ix1 := idxVec_1
    go_enter Tryz.func104, Tryz.ntmps104
    go_upto_region 1 with fail
    go_region_held3 (fun w' => (∀ k, w'.cell? ⟨b, k, none⟩ = [.int .i64 a1, .int .i64 a2, .int .i64 a3, .int .i64 b1, .int .i64 b2, .int .i64 b3, .int .i64 c1, .int .i64 c2, .int .i64 c3, .int .i64 d1, .int .i64 d2, .int .i64 d3][k]?) ∧ (∀ k, w'.cell? ⟨c, k, none⟩ = [.int .i64 i1, .int .i64 i2, .int .i64 i3, .int .i64 j1, .int .i64 j2, .int .i64 j3, .int .i64 k1, .int .i64 k2, .int .i64 k3, .int .i64 l1, .int .i64 l2, .int .i64 l3][k]?))
      (((try dsimp only); (refine ⟨Blk.cell ?_, Blk.cell ?_⟩ <;> (repeat' (first | (with_reducible first | assumption | refine Blk.drew ?_ | refine Blk.drewN ?_ _ | apply Blk.set | (refine Blk.new ?_; focus (first | rfl | (simp; done))) | refine Blk.alloc ?_ _ | refine Blk.other ?_ ?_ _) | exact eqL rfl | (refine neB ?_; omega))))))
      (first
        | (go_at_call 77; refine (mrow_0 a1 a2 a3 b1 b2 b3 c1 c2 c3 d1 d2 d3 _).mono ?_; rintro e W1 ⟨rfl, hb⟩; have Bb : Blk W1 (b) [.int .i64 a1, .int .i64 a2, .int .i64 a3, .int .i64 b1, .int .i64 b2, .int .i64 b3, .int .i64 c1, .int .i64 c2, .int .i64 c3, .int .i64 d1, .int .i64 d2, .int .i64 d3] := Blk.keep hb (by repeat' (first | (with_reducible first | assumption | refine Blk.drew ?_ | refine Blk.drewN ?_ _ | apply Blk.set | (refine Blk.new ?_; focus (first | rfl | (simp; done))) | refine Blk.alloc ?_ _ | refine Blk.other ?_ ?_ _) | exact eqL rfl | (refine neB ?_; omega))); have Bc : Blk W1 (c) [.int .i64 i1, .int .i64 i2, .int .i64 i3, .int .i64 j1, .int .i64 j2, .int .i64 j3, .int .i64 k1, .int .i64 k2, .int .i64 k3, .int .i64 l1, .int .i64 l2, .int .i64 l3] := Blk.keep hb (by repeat' (first | (with_reducible first | assumption | refine Blk.drew ?_ | refine Blk.drewN ?_ _ | apply Blk.set | (refine Blk.new ?_; focus (first | rfl | (simp; done))) | refine Blk.alloc ?_ _ | refine Blk.other ?_ ?_ _) | exact eqL rfl | (refine neB ?_; omega))); have Bz : Blk W1 (w.heap.size) [.int .i64 0, .int .i64 0, .int .i64 0] := Blk.keep hb (by repeat' (first | (with_reducible first | assumption | refine Blk.drew ?_ | refine Blk.drewN ?_ _ | apply Blk.set | (refine Blk.new ?_; focus (first | rfl | (simp; done))) | refine Blk.alloc ?_ _ | refine Blk.other ?_ ?_ _) | exact eqL rfl | (refine neB ?_; omega))); have cb := Bb.cell; have fb := Bb.free; have lb_W1 := Bb.lt; have cc := Bc.cell; have fc := Bc.free; have lc_W1 := Bc.lt; have cz := Bz.cell; have fz := Bz.free; have lz_W1 := Bz.lt; have kaW1 : Acc w W1 := (by refine Acc.call ?_ hb; (repeat' (first | (with_reducible first | assumption | exact Acc.refl _ | refine Acc.drew ?_ | refine Acc.drewN ?_ _ | refine Acc.alloc ?_ _ | refine Acc.setCell ?_ ?_ _) | (refine leB ?_; omega)))); clear hb)
        | (go_at_call 105; refine (mcolumn_0 i1 i2 i3 j1 j2 j3 k1 k2 k3 l1 l2 l3 _).mono ?_; rintro e W2 ⟨rfl, hb⟩; have Bb : Blk W2 (b) [.int .i64 a1, .int .i64 a2, .int .i64 a3, .int .i64 b1, .int .i64 b2, .int .i64 b3, .int .i64 c1, .int .i64 c2, .int .i64 c3, .int .i64 d1, .int .i64 d2, .int .i64 d3] := Blk.keep hb (by repeat' (first | (with_reducible first | assumption | refine Blk.drew ?_ | refine Blk.drewN ?_ _ | apply Blk.set | (refine Blk.new ?_; focus (first | rfl | (simp; done))) | refine Blk.alloc ?_ _ | refine Blk.other ?_ ?_ _) | exact eqL rfl | (refine neB ?_; omega))); have Bc : Blk W2 (c) [.int .i64 i1, .int .i64 i2, .int .i64 i3, .int .i64 j1, .int .i64 j2, .int .i64 j3, .int .i64 k1, .int .i64 k2, .int .i64 k3, .int .i64 l1, .int .i64 l2, .int .i64 l3] := Blk.keep hb (by repeat' (first | (with_reducible first | assumption | refine Blk.drew ?_ | refine Blk.drewN ?_ _ | apply Blk.set | (refine Blk.new ?_; focus (first | rfl | (simp; done))) | refine Blk.alloc ?_ _ | refine Blk.other ?_ ?_ _) | exact eqL rfl | (refine neB ?_; omega))); have Bz : Blk W2 (w.heap.size) [.int .i64 0, .int .i64 0, .int .i64 0] := Blk.keep hb (by repeat' (first | (with_reducible first | assumption | refine Blk.drew ?_ | refine Blk.drewN ?_ _ | apply Blk.set | (refine Blk.new ?_; focus (first | rfl | (simp; done))) | refine Blk.alloc ?_ _ | refine Blk.other ?_ ?_ _) | exact eqL rfl | (refine neB ?_; omega))); have cb := Bb.cell; have fb := Bb.free; have lb_W2 := Bb.lt; have cc := Bc.cell; have fc := Bc.free; have lc_W2 := Bc.lt; have cz := Bz.cell; have fz := Bz.free; have lz_W2 := Bz.lt; have kaW2 : Acc w W2 := (by refine Acc.call ?_ hb; (repeat' (first | (with_reducible first | assumption | exact Acc.refl _ | refine Acc.drew ?_ | refine Acc.drewN ?_ _ | refine Acc.alloc ?_ _ | refine Acc.setCell ?_ ?_ _) | (refine leB ?_; omega)))); clear hb)
        | (go_at_call 78; refine (D.out _).mono ?_; rintro e W8 ⟨⟨s, rfl⟩, hb⟩; have Bb : Blk W8 (b) [.int .i64 a1, .int .i64 a2, .int .i64 a3, .int .i64 b1, .int .i64 b2, .int .i64 b3, .int .i64 c1, .int .i64 c2, .int .i64 c3, .int .i64 d1, .int .i64 d2, .int .i64 d3] := Blk.keep hb (by repeat' (first | (with_reducible first | assumption | refine Blk.drew ?_ | refine Blk.drewN ?_ _ | apply Blk.set | (refine Blk.new ?_; focus (first | rfl | (simp; done))) | refine Blk.alloc ?_ _ | refine Blk.other ?_ ?_ _) | exact eqL rfl | (refine neB ?_; omega))); have Bc : Blk W8 (c) [.int .i64 i1, .int .i64 i2, .int .i64 i3, .int .i64 j1, .int .i64 j2, .int .i64 j3, .int .i64 k1, .int .i64 k2, .int .i64 k3, .int .i64 l1, .int .i64 l2, .int .i64 l3] := Blk.keep hb (by repeat' (first | (with_reducible first | assumption | refine Blk.drew ?_ | refine Blk.drewN ?_ _ | apply Blk.set | (refine Blk.new ?_; focus (first | rfl | (simp; done))) | refine Blk.alloc ?_ _ | refine Blk.other ?_ ?_ _) | exact eqL rfl | (refine neB ?_; omega))); have Bz : Blk W8 (w.heap.size) [.int .i64 0, .int .i64 0, .int .i64 0] := Blk.keep hb (by repeat' (first | (with_reducible first | assumption | refine Blk.drew ?_ | refine Blk.drewN ?_ _ | apply Blk.set | (refine Blk.new ?_; focus (first | rfl | (simp; done))) | refine Blk.alloc ?_ _ | refine Blk.other ?_ ?_ _) | exact eqL rfl | (refine neB ?_; omega))); have cb := Bb.cell; have fb := Bb.free; have lb_W8 := Bb.lt; have cc := Bc.cell; have fc := Bc.free; have lc_W8 := Bc.lt; have cz := Bz.cell; have fz := Bz.free; have lz_W8 := Bz.lt; have kaW8 : Acc w W8 := (by refine Acc.call ?_ hb; (repeat' (first | (with_reducible first | assumption | exact Acc.refl _ | refine Acc.drew ?_ | refine Acc.drewN ?_ _ | refine Acc.alloc ?_ _ | refine Acc.setCell ?_ ?_ _) | (refine leB ?_; omega)))); clear hb))
    all_goals
      go_wp2_with fail
      refine bodyPost_ret (v := .tuple #[.agg #[.int .i64 0, .int .i64 0, .int .i64 0], .iface 142 (.agg #[.string s])]) (by simp [results, Tryz.results104, go_sem, *]) rfl ⟨fun _ _ _ h => (by cases h), fun _ => ⟨_, rfl⟩, ?_⟩
      show Acc w _
      (repeat' (first | (with_reducible first | assumption | exact Acc.refl _ | refine Acc.drew ?_ | refine Acc.drewN ?_ _ | refine Acc.alloc ?_ _ | refine Acc.setCell ?_ ?_ _) | (refine leB ?_; omega)))
  | some v =>
    obtain ⟨p, q, r⟩ := v
    have D := Lib.hid fun w => (vsum_any a1 a2 a3 b1 b2 b3 i1 i2 i3 k1 k2 k3 ha1 ha2 ha3 hb1 hb2 hb3 hi1 hi2 hi3 hk1 hk2 hk3 w).mono fun e w' h => And.intro (h.1 _ _ _ ho) h.2.2
    clear ho
    have ew0 : IntKind.i64.wrap 0 = 0 := by decide
    have ew1 : IntKind.i64.wrap 1 = 1 := by decide
    have ix0 := idxVec_0
    have ix1 := idxVec_1
    go_enter Tryz.func104, Tryz.ntmps104
    go_upto_region 1 with fail
    go_region_held3 (fun w' => (∀ k, w'.cell? ⟨b, k, none⟩ = [.int .i64 a1, .int .i64 a2, .int .i64 a3, .int .i64 b1, .int .i64 b2, .int .i64 b3, .int .i64 c1, .int .i64 c2, .int .i64 c3, .int .i64 d1, .int .i64 d2, .int .i64 d3][k]?) ∧ (∀ k, w'.cell? ⟨c, k, none⟩ = [.int .i64 i1, .int .i64 i2, .int .i64 i3, .int .i64 j1, .int .i64 j2, .int .i64 j3, .int .i64 k1, .int .i64 k2, .int .i64 k3, .int .i64 l1, .int .i64 l2, .int .i64 l3][k]?))
      (((try dsimp only); (refine ⟨Blk.cell ?_, Blk.cell ?_⟩ <;> (repeat' (first | (with_reducible first | assumption | refine Blk.drew ?_ | refine Blk.drewN ?_ _ | apply Blk.set | (refine Blk.new ?_; focus (first | rfl | (simp; done))) | refine Blk.alloc ?_ _ | refine Blk.other ?_ ?_ _) | exact eqL rfl | (refine neB ?_; omega))))))
      (first
        | (go_at_call 77; refine (mrow_0 a1 a2 a3 b1 b2 b3 c1 c2 c3 d1 d2 d3 _).mono ?_; rintro e W1 ⟨rfl, hb⟩; have Bb : Blk W1 (b) [.int .i64 a1, .int .i64 a2, .int .i64 a3, .int .i64 b1, .int .i64 b2, .int .i64 b3, .int .i64 c1, .int .i64 c2, .int .i64 c3, .int .i64 d1, .int .i64 d2, .int .i64 d3] := Blk.keep hb (by repeat' (first | (with_reducible first | assumption | refine Blk.drew ?_ | refine Blk.drewN ?_ _ | apply Blk.set | (refine Blk.new ?_; focus (first | rfl | (simp; done))) | refine Blk.alloc ?_ _ | refine Blk.other ?_ ?_ _) | exact eqL rfl | (refine neB ?_; omega))); have Bc : Blk W1 (c) [.int .i64 i1, .int .i64 i2, .int .i64 i3, .int .i64 j1, .int .i64 j2, .int .i64 j3, .int .i64 k1, .int .i64 k2, .int .i64 k3, .int .i64 l1, .int .i64 l2, .int .i64 l3] := Blk.keep hb (by repeat' (first | (with_reducible first | assumption | refine Blk.drew ?_ | refine Blk.drewN ?_ _ | apply Blk.set | (refine Blk.new ?_; focus (first | rfl | (simp; done))) | refine Blk.alloc ?_ _ | refine Blk.other ?_ ?_ _) | exact eqL rfl | (refine neB ?_; omega))); have Bz : Blk W1 (w.heap.size) [.int .i64 0, .int .i64 0, .int .i64 0] := Blk.keep hb (by repeat' (first | (with_reducible first | assumption | refine Blk.drew ?_ | refine Blk.drewN ?_ _ | apply Blk.set | (refine Blk.new ?_; focus (first | rfl | (simp; done))) | refine Blk.alloc ?_ _ | refine Blk.other ?_ ?_ _) | exact eqL rfl | (refine neB ?_; omega))); have cb := Bb.cell; have fb := Bb.free; have lb_W1 := Bb.lt; have cc := Bc.cell; have fc := Bc.free; have lc_W1 := Bc.lt; have cz := Bz.cell; have fz := Bz.free; have lz_W1 := Bz.lt; have kaW1 : Acc w W1 := (by refine Acc.call ?_ hb; (repeat' (first | (with_reducible first | assumption | exact Acc.refl _ | refine Acc.drew ?_ | refine Acc.drewN ?_ _ | refine Acc.alloc ?_ _ | refine Acc.setCell ?_ ?_ _) | (refine leB ?_; omega)))); clear hb)
        | (go_at_call 105; refine (mcolumn_0 i1 i2 i3 j1 j2 j3 k1 k2 k3 l1 l2 l3 _).mono ?_; rintro e W2 ⟨rfl, hb⟩; have Bb : Blk W2 (b) [.int .i64 a1, .int .i64 a2, .int .i64 a3, .int .i64 b1, .int .i64 b2, .int .i64 b3, .int .i64 c1, .int .i64 c2, .int .i64 c3, .int .i64 d1, .int .i64 d2, .int .i64 d3] := Blk.keep hb (by repeat' (first | (with_reducible first | assumption | refine Blk.drew ?_ | refine Blk.drewN ?_ _ | apply Blk.set | (refine Blk.new ?_; focus (first | rfl | (simp; done))) | refine Blk.alloc ?_ _ | refine Blk.other ?_ ?_ _) | exact eqL rfl | (refine neB ?_; omega))); have Bc : Blk W2 (c) [.int .i64 i1, .int .i64 i2, .int .i64 i3, .int .i64 j1, .int .i64 j2, .int .i64 j3, .int .i64 k1, .int .i64 k2, .int .i64 k3, .int .i64 l1, .int .i64 l2, .int .i64 l3] := Blk.keep hb (by repeat' (first | (with_reducible first | assumption | refine Blk.drew ?_ | refine Blk.drewN ?_ _ | apply Blk.set | (refine Blk.new ?_; focus (first | rfl | (simp; done))) | refine Blk.alloc ?_ _ | refine Blk.other ?_ ?_ _) | exact eqL rfl | (refine neB ?_; omega))); have Bz : Blk W2 (w.heap.size) [.int .i64 0, .int .i64 0, .int .i64 0] := Blk.keep hb (by repeat' (first | (with_reducible first | assumption | refine Blk.drew ?_ | refine Blk.drewN ?_ _ | apply Blk.set | (refine Blk.new ?_; focus (first | rfl | (simp; done))) | refine Blk.alloc ?_ _ | refine Blk.other ?_ ?_ _) | exact eqL rfl | (refine neB ?_; omega))); have cb := Bb.cell; have fb := Bb.free; have lb_W2 := Bb.lt; have cc := Bc.cell; have fc := Bc.free; have lc_W2 := Bc.lt; have cz := Bz.cell; have fz := Bz.free; have lz_W2 := Bz.lt; have kaW2 : Acc w W2 := (by refine Acc.call ?_ hb; (repeat' (first | (with_reducible first | assumption | exact Acc.refl _ | refine Acc.drew ?_ | refine Acc.drewN ?_ _ | refine Acc.alloc ?_ _ | refine Acc.setCell ?_ ?_ _) | (refine leB ?_; omega)))); clear hb)
        | (go_at_call 78; refine (D.out _).mono ?_; rintro e W8 ⟨rfl, hb⟩; have Bb : Blk W8 (b) [.int .i64 a1, .int .i64 a2, .int .i64 a3, .int .i64 b1, .int .i64 b2, .int .i64 b3, .int .i64 c1, .int .i64 c2, .int .i64 c3, .int .i64 d1, .int .i64 d2, .int .i64 d3] := Blk.keep hb (by repeat' (first | (with_reducible first | assumption | refine Blk.drew ?_ | refine Blk.drewN ?_ _ | apply Blk.set | (refine Blk.new ?_; focus (first | rfl | (simp; done))) | refine Blk.alloc ?_ _ | refine Blk.other ?_ ?_ _) | exact eqL rfl | (refine neB ?_; omega))); have Bc : Blk W8 (c) [.int .i64 i1, .int .i64 i2, .int .i64 i3, .int .i64 j1, .int .i64 j2, .int .i64 j3, .int .i64 k1, .int .i64 k2, .int .i64 k3, .int .i64 l1, .int .i64 l2, .int .i64 l3] := Blk.keep hb (by repeat' (first | (with_reducible first | assumption | refine Blk.drew ?_ | refine Blk.drewN ?_ _ | apply Blk.set | (refine Blk.new ?_; focus (first | rfl | (simp; done))) | refine Blk.alloc ?_ _ | refine Blk.other ?_ ?_ _) | exact eqL rfl | (refine neB ?_; omega))); have Bz : Blk W8 (w.heap.size) [.int .i64 0, .int .i64 0, .int .i64 0] := Blk.keep hb (by repeat' (first | (with_reducible first | assumption | refine Blk.drew ?_ | refine Blk.drewN ?_ _ | apply Blk.set | (refine Blk.new ?_; focus (first | rfl | (simp; done))) | refine Blk.alloc ?_ _ | refine Blk.other ?_ ?_ _) | exact eqL rfl | (refine neB ?_; omega))); have cb := Bb.cell; have fb := Bb.free; have lb_W8 := Bb.lt; have cc := Bc.cell; have fc := Bc.free; have lc_W8 := Bc.lt; have cz := Bz.cell; have fz := Bz.free; have lz_W8 := Bz.lt; have kaW8 : Acc w W8 := (by refine Acc.call ?_ hb; (repeat' (first | (with_reducible first | assumption | exact Acc.refl _ | refine Acc.drew ?_ | refine Acc.drewN ?_ _ | refine Acc.alloc ?_ _ | refine Acc.setCell ?_ ?_ _) | (refine leB ?_; omega)))); clear hb))
    all_goals
      go_wp2_with fail
      refine bodyPost_ret (v := .tuple #[.agg #[.int .i64 p, .int .i64 q, .int .i64 r], .nilIface]) (by simp [results, Tryz.results104, go_sem, *]) rfl ⟨fun _ _ _ h => (by cases h; rfl), fun h => (by cases h), ?_⟩
      show Acc w _
      (repeat' (first | (with_reducible first | assumption | exact Acc.refl _ | refine Acc.drew ?_ | refine Acc.drewN ?_ _ | refine Acc.alloc ?_ _ | refine Acc.setCell ?_ ?_ _) | (refine leB ?_; omega)))
set_option maxHeartbeats 4000000 in
theorem mtimesClo_01 (b c : Nat) (a1 a2 a3 b1 b2 b3 c1 c2 c3 d1 d2 d3 i1 i2 i3 j1 j2 j3 k1 k2 k3 l1 l2 l3 : Int) (ha1 : i64B a1) (ha2 : i64B a2) (ha3 : i64B a3) (hb1 : i64B b1) (hb2 : i64B b2) (hb3 : i64B b3) (hc1 : i64B c1) (hc2 : i64B c2) (hc3 : i64B c3) (hd1 : i64B d1) (hd2 : i64B d2) (hd3 : i64B d3) (hi1 : i64B i1) (hi2 : i64B i2) (hi3 : i64B i3) (hj1 : i64B j1) (hj2 : i64B j2) (hj3 : i64B j3) (hk1 : i64B k1) (hk2 : i64B k2) (hk3 : i64B k3) (hl1 : i64B l1) (hl2 : i64B l2) (hl3 : i64B l3) (w : World) (Bb : Blk w b [.int .i64 a1, .int .i64 a2, .int .i64 a3, .int .i64 b1, .int .i64 b2, .int .i64 b3, .int .i64 c1, .int .i64 c2, .int .i64 c3, .int .i64 d1, .int .i64 d2, .int .i64 d3]) (Bc : Blk w c [.int .i64 i1, .int .i64 i2, .int .i64 i3, .int .i64 j1, .int .i64 j2, .int .i64 j3, .int .i64 k1, .int .i64 k2, .int .i64 k3, .int .i64 l1, .int .i64 l2, .int .i64 l3]) :
    Calls Tryz.prog 104 #[.int .i64 0, .int .i64 1, .pointer (some ⟨b, 0, none⟩), .pointer (some ⟨c, 0, none⟩)] w (Erred (innF a1 a2 a3 j1 j2 j3 b1 b2 b3 l1 l2 l3) w) := by
  have cb := Bb.cell
  have fb := Bb.free
  have lb_w := Bb.lt
  have cc := Bc.cell
  have fc := Bc.free
  have lc_w := Bc.lt
  cases ho : innF a1 a2 a3 j1 j2 j3 b1 b2 b3 l1 l2 l3 with
  | none =>
    have D := Lib.hid fun w => (vsum_any a1 a2 a3 b1 b2 b3 j1 j2 j3 l1 l2 l3 ha1 ha2 ha3 hb1 hb2 hb3 hj1 hj2 hj3 hl1 hl2 hl3 w).mono fun e w' h => And.intro (h.2.1 ho) h.2.2
    clear ho
    have ew0 : IntKind.i64.wrap 0 = 0 := by decide
    have ew1 : IntKind.i64.wrap 1 = 1 := by decide
    have ix0 := idxVec_0
    have ix1 := idxVec_1
    go_enter Tryz.func104, Tryz.ntmps104
    go_upto_region 1 with fail
    go_region_held3 (fun w' => (∀ k, w'.cell? ⟨b, k, none⟩ = [.int .i64 a1, .int .i64 a2, .int .i64 a3, .int .i64 b1, .int .i64 b2, .int .i64 b3, .int .i64 c1, .int .i64 c2, .int .i64 c3, .int .i64 d1, .int .i64 d2, .int .i64 d3][k]?) ∧ (∀ k, w'.cell? ⟨c, k, none⟩ = [.int .i64 i1, .int .i64 i2, .int .i64 i3, .int .i64 j1, .int .i64 j2, .int .i64 j3, .int .i64 k1, .int .i64 k2, .int .i64 k3, .int .i64 l1, .int .i64 l2, .int .i64 l3][k]?))
      (((try dsimp only); (refine ⟨Blk.cell ?_, Blk.cell ?_⟩ <;> (repeat' (first | (with_reducible first | assumption | refine Blk.drew ?_ | refine Blk.drewN ?_ _ | apply Blk.set | (refine Blk.new ?_; focus (first | rfl | (simp; done))) | refine Blk.alloc ?_ _ | refine Blk.other ?_ ?_ _) | exact eqL rfl | (refine neB ?_; omega))))))
      (first
        | (go_at_call 77; refine (mrow_0 a1 a2 a3 b1 b2 b3 c1 c2 c3 d1 d2 d3 _).mono ?_; rintro e W1 ⟨rfl, hb⟩; have Bb : Blk W1 (b) [.int .i64 a1, .int .i64 a2, .int .i64 a3, .int .i64 b1, .int .i64 b2, .int .i64 b3, .int .i64 c1, .int .i64 c2, .int .i64 c3, .int .i64 d1, .int .i64 d2, .int .i64 d3] := Blk.keep hb (by repeat' (first | (with_reducible first | assumption | refine Blk.drew ?_ | refine Blk.drewN ?_ _ | apply Blk.set | (refine Blk.new ?_; focus (first | rfl | (simp; done))) | refine Blk.alloc ?_ _ | refine Blk.other ?_ ?_ _) | exact eqL rfl | (refine neB ?_; omega))); have Bc : Blk W1 (c) [.int .i64 i1, .int .i64 i2, .int .i64 i3, .int .i64 j1, .int .i64 j2, .int .i64 j3, .int .i64 k1, .int .i64 k2, .int .i64 k3, .int .i64 l1, .int .i64 l2, .int .i64 l3] := Blk.keep hb (by repeat' (first | (with_reducible first | assumption | refine Blk.drew ?_ | refine Blk.drewN ?_ _ | apply Blk.set | (refine Blk.new ?_; focus (first | rfl | (simp; done))) | refine Blk.alloc ?_ _ | refine Blk.other ?_ ?_ _) | exact eqL rfl | (refine neB ?_; omega))); have Bz : Blk W1 (w.heap.size) [.int .i64 0, .int .i64 0, .int .i64 0] := Blk.keep hb (by repeat' (first | (with_reducible first | assumption | refine Blk.drew ?_ | refine Blk.drewN ?_ _ | apply Blk.set | (refine Blk.new ?_; focus (first | rfl | (simp; done))) | refine Blk.alloc ?_ _ | refine Blk.other ?_ ?_ _) | exact eqL rfl | (refine neB ?_; omega))); have cb := Bb.cell; have fb := Bb.free; have lb_W1 := Bb.lt; have cc := Bc.cell; have fc := Bc.free; have lc_W1 := Bc.lt; have cz := Bz.cell; have fz := Bz.free; have lz_W1 := Bz.lt; have kaW1 : Acc w W1 := (by refine Acc.call ?_ hb; (repeat' (first | (with_reducible first | assumption | exact Acc.refl _ | refine Acc.drew ?_ | refine Acc.drewN ?_ _ | refine Acc.alloc ?_ _ | refine Acc.setCell ?_ ?_ _) | (refine leB ?_; omega)))); clear hb)
        | (go_at_call 105; refine (mcolumn_1 i1 i2 i3 j1 j2 j3 k1 k2 k3 l1 l2 l3 _).mono ?_; rintro e W2 ⟨rfl, hb⟩; have Bb : Blk W2 (b) [.int .i64 a1, .int .i64 a2, .int .i64 a3, .int .i64 b1, .int .i64 b2, .int .i64 b3, .int .i64 c1, .int .i64 c2, .int .i64 c3, .int .i64 d1, .int .i64 d2, .int .i64 d3] := Blk.keep hb (by repeat' (first | (with_reducible first | assumption | refine Blk.drew ?_ | refine Blk.drewN ?_ _ | apply Blk.set | (refine Blk.new ?_; focus (first | rfl | (simp; done))) | refine Blk.alloc ?_ _ | refine Blk.other ?_ ?_ _) | exact eqL rfl | (refine neB ?_; omega))); have Bc : Blk W2 (c) [.int .i64 i1, .int .i64 i2, .int .i64 i3, .int .i64 j1, .int .i64 j2, .int .i64 j3, .int .i64 k1, .int .i64 k2, .int .i64 k3, .int .i64 l1, .int .i64 l2, .int .i64 l3] := Blk.keep hb (by repeat' (first | (with_reducible first | assumption | refine Blk.drew ?_ | refine Blk.drewN ?_ _ | apply Blk.set | (refine Blk.new ?_; focus (first | rfl | (simp; done))) | refine Blk.alloc ?_ _ | refine Blk.other ?_ ?_ _) | exact eqL rfl | (refine neB ?_; omega))); have Bz : Blk W2 (w.heap.size) [.int .i64 0, .int .i64 0, .int .i64 0] := Blk.keep hb (by repeat' (first | (with_reducible first | assumption | refine Blk.drew ?_ | refine Blk.drewN ?_ _ | apply Blk.set | (refine Blk.new ?_; focus (first | rfl | (simp; done))) | refine Blk.alloc ?_ _ | refine Blk.other ?_ ?_ _) | exact eqL rfl | (refine neB ?_; omega))); have cb := Bb.cell; have fb := Bb.free; have lb_W2 := Bb.lt; have cc := Bc.cell; have fc := Bc.free; have lc_W2 := Bc.lt; have cz := Bz.cell; have fz := Bz.free; have lz_W2 := Bz.lt; have kaW2 : Acc w W2 := (by refine Acc.call ?_ hb; (repeat' (first | (with_reducible first | assumption | exact Acc.refl _ | refine Acc.drew ?_ | refine Acc.drewN ?_ _ | refine Acc.alloc ?_ _ | refine Acc.setCell ?_ ?_ _) | (refine leB ?_; omega)))); clear hb)
        | (go_at_call 78; refine (D.out _).mono ?_; rintro e W8 ⟨⟨s, rfl⟩, hb⟩; have Bb : Blk W8 (b) [.int .i64 a1, .int .i64 a2, .int .i64 a3, .int .i64 b1, .int .i64 b2, .int .i64 b3, .int .i64 c1, .int .i64 c2, .int .i64 c3, .int .i64 d1, .int .i64 d2, .int .i64 d3] := Blk.keep hb (by repeat' (first | (with_reducible first | assumption | refine Blk.drew ?_ | refine Blk.drewN ?_ _ | apply Blk.set | (refine Blk.new ?_; focus (first | rfl | (simp; done))) | refine Blk.alloc ?_ _ | refine Blk.other ?_ ?_ _) | exact eqL rfl | (refine neB ?_; omega))); have Bc : Blk W8 (c) [.int .i64 i1, .int .i64 i2, .int .i64 i3, .int .i64 j1, .int .i64 j2, .int .i64 j3, .int .i64 k1, .int .i64 k2, .int .i64 k3, .int .i64 l1, .int .i64 l2, .int .i64 l3] := Blk.keep hb (by repeat' (first | (with_reducible first | assumption | refine Blk.drew ?_ | refine Blk.drewN ?_ _ | apply Blk.set | (refine Blk.new ?_; focus (first | rfl | (simp; done))) | refine Blk.alloc ?_ _ | refine Blk.other ?_ ?_ _) | exact eqL rfl | (refine neB ?_; omega))); have Bz : Blk W8 (w.heap.size) [.int .i64 0, .int .i64 0, .int .i64 0] := Blk.keep hb (by repeat' (first | (with_reducible first | assumption | refine Blk.drew ?_ | refine Blk.drewN ?_ _ | apply Blk.set | (refine Blk.new ?_; focus (first | rfl | (simp; done))) | refine Blk.alloc ?_ _ | refine Blk.other ?_ ?_ _) | exact eqL rfl | (refine neB ?_; omega))); have cb := Bb.cell; have fb := Bb.free; have lb_W8 := Bb.lt; have cc := Bc.cell; have fc := Bc.free; have lc_W8 := Bc.lt; have cz := Bz.cell; have fz := Bz.free; have lz_W8 := Bz.lt; have kaW8 : Acc w W8 := (by refine Acc.call ?_ hb; (repeat' (first | (with_reducible first | assumption | exact Acc.refl _ | refine Acc.drew ?_ | refine Acc.drewN ?_ _ | refine Acc.alloc ?_ _ | refine Acc.setCell ?_ ?_ _) | (refine leB ?_; omega)))); clear hb))
    all_goals
      go_wp2_with fail
      refine bodyPost_ret (v := .tuple #[.agg #[.int .i64 0, .int .i64 0, .int .i64 0], .iface 142 (.agg #[.string s])]) (by simp [results, Tryz.results104, go_sem, *]) rfl ⟨fun _ _ _ h => (by cases h), fun _ => ⟨_, rfl⟩, ?_⟩
      show Acc w _
      (repeat' (first | (with_reducible first | assumption | exact Acc.refl _ | refine Acc.drew ?_ | refine Acc.drewN ?_ _ | refine Acc.alloc ?_ _ | refine Acc.setCell ?_ ?_ _) | (refine leB ?_; omega)))
  | some v =>
    obtain ⟨p, q, r⟩ := v
    have D := Lib.hid fun w => (vsum_any a1 a2 a3 b1 b2 b3 j1 j2 j3 l1 l2 l3 ha1 ha2 ha3 hb1 hb2 hb3 hj1 hj2 hj3 hl1 hl2 hl3 w).mono fun e w' h => And.intro (h.1 _ _ _ ho) h.2.2
    clear ho
    have ew0 : IntKind.i64.wrap 0 = 0 := by decide
    have ew1 : IntKind.i64.wrap 1 = 1 := by decide
    have ix0 := idxVec_0
    have ix1 := idxVec_1
    go_enter Tryz.func104, Tryz.ntmps104
    go_upto_region 1 with fail
    go_region_held3 (fun w' => (∀ k, w'.cell? ⟨b, k, none⟩ = [.int .i64 a1, .int .i64 a2, .int .i64 a3, .int .i64 b1, .int .i64 b2, .int .i64 b3, .int .i64 c1, .int .i64 c2, .int .i64 c3, .int .i64 d1, .int .i64 d2, .int .i64 d3][k]?) ∧ (∀ k, w'.cell? ⟨c, k, none⟩ = [.int .i64 i1, .int .i64 i2, .int .i64 i3, .int .i64 j1, .int .i64 j2, .int .i64 j3, .int .i64 k1, .int .i64 k2, .int .i64 k3, .int .i64 l1, .int .i64 l2, .int .i64 l3][k]?))
      (((try dsimp only); (refine ⟨Blk.cell ?_, Blk.cell ?_⟩ <;> (repeat' (first | (with_reducible first | assumption | refine Blk.drew ?_ | refine Blk.drewN ?_ _ | apply Blk.set | (refine Blk.new ?_; focus (first | rfl | (simp; done))) | refine Blk.alloc ?_ _ | refine Blk.other ?_ ?_ _) | exact eqL rfl | (refine neB ?_; omega))))))
      (first
        | (go_at_call 77; refine (mrow_0 a1 a2 a3 b1 b2 b3 c1 c2 c3 d1 d2 d3 _).mono ?_; rintro e W1 ⟨rfl, hb⟩; have Bb : Blk W1 (b) [.int .i64 a1, .int .i64 a2, .int .i64 a3, .int .i64 b1, .int .i64 b2, .int .i64 b3, .int .i64 c1, .int .i64 c2, .int .i64 c3, .int .i64 d1, .int .i64 d2, .int .i64 d3] := Blk.keep hb (by repeat' (first | (with_reducible first | assumption | refine Blk.drew ?_ | refine Blk.drewN ?_ _ | apply Blk.set | (refine Blk.new ?_; focus (first | rfl | (simp; done))) | refine Blk.alloc ?_ _ | refine Blk.other ?_ ?_ _) | exact eqL rfl | (refine neB ?_; omega))); have Bc : Blk W1 (c) [.int .i64 i1, .int .i64 i2, .int .i64 i3, .int .i64 j1, .int .i64 j2, .int .i64 j3, .int .i64 k1, .int .i64 k2, .int .i64 k3, .int .i64 l1, .int .i64 l2, .int .i64 l3] := Blk.keep hb (by repeat' (first | (with_reducible first | assumption | refine Blk.drew ?_ | refine Blk.drewN ?_ _ | apply Blk.set | (refine Blk.new ?_; focus (first | rfl | (simp; done))) | refine Blk.alloc ?_ _ | refine Blk.other ?_ ?_ _) | exact eqL rfl | (refine neB ?_; omega))); have Bz : Blk W1 (w.heap.size) [.int .i64 0, .int .i64 0, .int .i64 0] := Blk.keep hb (by repeat' (first | (with_reducible first | assumption | refine Blk.drew ?_ | refine Blk.drewN ?_ _ | apply Blk.set | (refine Blk.new ?_; focus (first | rfl | (simp; done))) | refine Blk.alloc ?_ _ | refine Blk.other ?_ ?_ _) | exact eqL rfl | (refine neB ?_; omega))); have cb := Bb.cell; have fb := Bb.free; have lb_W1 := Bb.lt; have cc := Bc.cell; have fc := Bc.free; have lc_W1 := Bc.lt; have cz := Bz.cell; have fz := Bz.free; have lz_W1 := Bz.lt; have kaW1 : Acc w W1 := (by refine Acc.call ?_ hb; (repeat' (first | (with_reducible first | assumption | exact Acc.refl _ | refine Acc.drew ?_ | refine Acc.drewN ?_ _ | refine Acc.alloc ?_ _ | refine Acc.setCell ?_ ?_ _) | (refine leB ?_; omega)))); clear hb)
        | (go_at_call 105; refine (mcolumn_1 i1 i2 i3 j1 j2 j3 k1 k2 k3 l1 l2 l3 _).mono ?_; rintro e W2 ⟨rfl, hb⟩; have Bb : Blk W2 (b) [.int .i64 a1, .int .i64 a2, .int .i64 a3, .int .i64 b1, .int .i64 b2, .int .i64 b3, .int .i64 c1, .int .i64 c2, .int .i64 c3, .int .i64 d1, .int .i64 d2, .int .i64 d3] := Blk.keep hb (by repeat' (first | (with_reducible first | assumption | refine Blk.drew ?_ | refine Blk.drewN ?_ _ | apply Blk.set | (refine Blk.new ?_; focus (first | rfl | (simp; done))) | refine Blk.alloc ?_ _ | refine Blk.other ?_ ?_ _) | exact eqL rfl | (refine neB ?_; omega))); have Bc : Blk W2 (c) [.int .i64 i1, .int .i64 i2, .int .i64 i3, .int .i64 j1, .int .i64 j2, .int .i64 j3, .int .i64 k1, .int .i64 k2, .int .i64 k3, .int .i64 l1, .int .i64 l2, .int .i64 l3] := Blk.keep hb (by repeat' (first | (with_reducible first | assumption | refine Blk.drew ?_ | refine Blk.drewN ?_ _ | apply Blk.set | (refine Blk.new ?_; focus (first | rfl | (simp; done))) | refine Blk.alloc ?_ _ | refine Blk.other ?_ ?_ _) | exact eqL rfl | (refine neB ?_; omega))); have Bz : Blk W2 (w.heap.size) [.int .i64 0, .int .i64 0, .int .i64 0] := Blk.keep hb (by repeat' (first | (with_reducible first | assumption | refine Blk.drew ?_ | refine Blk.drewN ?_ _ | apply Blk.set | (refine Blk.new ?_; focus (first | rfl | (simp; done))) | refine Blk.alloc ?_ _ | refine Blk.other ?_ ?_ _) | exact eqL rfl | (refine neB ?_; omega))); have cb := Bb.cell; have fb := Bb.free; have lb_W2 := Bb.lt; have cc := Bc.cell; have fc := Bc.free; have lc_W2 := Bc.lt; have cz := Bz.cell; have fz := Bz.free; have lz_W2 := Bz.lt; have kaW2 : Acc w W2 := (by refine Acc.call ?_ hb; (repeat' (first | (with_reducible first | assumption | exact Acc.refl _ | refine Acc.drew ?_ | refine Acc.drewN ?_ _ | refine Acc.alloc ?_ _ | refine Acc.setCell ?_ ?_ _) | (refine leB ?_; omega)))); clear hb)
        | (go_at_call 78; refine (D.out _).mono ?_; rintro e W8 ⟨rfl, hb⟩; have Bb : Blk W8 (b) [.int .i64 a1, .int .i64 a2, .int .i64 a3, .int .i64 b1, .int .i64 b2, .int .i64 b3, .int .i64 c1, .int .i64 c2, .int .i64 c3, .int .i64 d1, .int .i64 d2, .int .i64 d3] := Blk.keep hb (by repeat' (first | (with_reducible first | assumption | refine Blk.drew ?_ | refine Blk.drewN ?_ _ | apply Blk.set | (refine Blk.new ?_; focus (first | rfl | (simp; done))) | refine Blk.alloc ?_ _ | refine Blk.other ?_ ?_ _) | exact eqL rfl | (refine neB ?_; omega))); have Bc : Blk W8 (c) [.int .i64 i1, .int .i64 i2, .int .i64 i3, .int .i64 j1, .int .i64 j2, .int .i64 j3, .int .i64 k1, .int .i64 k2, .int .i64 k3, .int .i64 l1, .int .i64 l2, .int .i64 l3] := Blk.keep hb (by repeat' (first | (with_reducible first | assumption | refine Blk.drew ?_ | refine Blk.drewN ?_ _ | apply Blk.set | (refine Blk.new ?_; focus (first | rfl | (simp; done))) | refine Blk.alloc ?_ _ | refine Blk.other ?_ ?_ _) | exact eqL rfl | (refine neB ?_; omega))); have Bz : Blk W8 (w.heap.size) [.int .i64 0, .int .i64 0, .int .i64 0] := Blk.keep hb (by repeat' (first | (with_reducible first | assumption | refine Blk.drew ?_ | refine Blk.drewN ?_ _ | apply Blk.set | (refine Blk.new ?_; focus (first | rfl | (simp; done))) | refine Blk.alloc ?_ _ | refine Blk.other ?_ ?_ _) | exact eqL rfl | (refine neB ?_; omega))); have cb := Bb.cell; have fb := Bb.free; have lb_W8 := Bb.lt; have cc := Bc.cell; have fc := Bc.free; have lc_W8 := Bc.lt; have cz := Bz.cell; have fz := Bz.free; have lz_W8 := Bz.lt; have kaW8 : Acc w W8 := (by refine Acc.call ?_ hb; (repeat' (first | (with_reducible first | assumption | exact Acc.refl _ | refine Acc.drew ?_ | refine Acc.drewN ?_ _ | refine Acc.alloc ?_ _ | refine Acc.setCell ?_ ?_ _) | (refine leB ?_; omega)))); clear hb))
    all_goals
      go_wp2_with fail
      refine bodyPost_ret (v := .tuple #[.agg #[.int .i64 p, .int .i64 q, .int .i64 r], .nilIface]) (by simp [results, Tryz.results104, go_sem, *]) rfl ⟨fun _ _ _ h => (by cases h; rfl), fun h => (by cases h), ?_⟩
      show Acc w _
      (repeat' (first | (with_reducible first | assumption | exact Acc.refl _ | refine Acc.drew ?_ | refine Acc.drewN ?_ _ | refine Acc.alloc ?_ _ | refine Acc.setCell ?_ ?_ _) | (refine leB ?_; omega)))
set_option maxHeartbeats 4000000 in
theorem mtimesClo_10 (b c : Nat) (a1 a2 a3 b1 b2 b3 c1 c2 c3 d1 d2 d3 i1 i2 i3 j1 j2 j3 k1 k2 k3 l1 l2 l3 : Int) (ha1 : i64B a1) (ha2 : i64B a2) (ha3 : i64B a3) (hb1 : i64B b1) (hb2 : i64B b2) (hb3 : i64B b3) (hc1 : i64B c1) (hc2 : i64B c2) (hc3 : i64B c3) (hd1 : i64B d1) (hd2 : i64B d2) (hd3 : i64B d3) (hi1 : i64B i1) (hi2 : i64B i2) (hi3 : i64B i3) (hj1 : i64B j1) (hj2 : i64B j2) (hj3 : i64B j3) (hk1 : i64B k1) (hk2 : i64B k2) (hk3 : i64B k3) (hl1 : i64B l1) (hl2 : i64B l2) (hl3 : i64B l3) (w : World) (Bb : Blk w b [.int .i64 a1, .int .i64 a2, .int .i64 a3, .int .i64 b1, .int .i64 b2, .int .i64 b3, .int .i64 c1, .int .i64 c2, .int .i64 c3, .int .i64 d1, .int .i64 d2, .int .i64 d3]) (Bc : Blk w c [.int .i64 i1, .int .i64 i2, .int .i64 i3, .int .i64 j1, .int .i64 j2, .int .i64 j3, .int .i64 k1, .int .i64 k2, .int .i64 k3, .int .i64 l1, .int .i64 l2, .int .i64 l3]) :
    Calls Tryz.prog 104 #[.int .i64 1, .int .i64 0, .pointer (some ⟨b, 0, none⟩), .pointer (some ⟨c, 0, none⟩)] w (Erred (innF c1 c2 c3 i1 i2 i3 d1 d2 d3 k1 k2 k3) w) := by
  have cb := Bb.cell
  have fb := Bb.free
  have lb_w := Bb.lt
  have cc := Bc.cell
  have fc := Bc.free
  have lc_w := Bc.lt
  cases ho : innF c1 c2 c3 i1 i2 i3 d1 d2 d3 k1 k2 k3 with
  | none =>
    have D := Lib.hid fun w => (vsum_any c1 c2 c3 d1 d2 d3 i1 i2 i3 k1 k2 k3 hc1 hc2 hc3 hd1 hd2 hd3 hi1 hi2 hi3 hk1 hk2 hk3 w).mono fun e w' h => And.intro (h.2.1 ho) h.2.2
    clear ho
    have ew0 : IntKind.i64.wrap 0 = 0 := by decide
    have ew1 : IntKind.i64.wrap 1 = 1 := by decide
    have ix0 := idxVec_0
    have ix1 := idxVec_1
    go_enter Tryz.func104, Tryz.ntmps104
    go_upto_region 1 with fail
    go_region_held3 (fun w' => (∀ k, w'.cell? ⟨b, k, none⟩ = [.int .i64 a1, .int .i64 a2, .int .i64 a3, .int .i64 b1, .int .i64 b2, .int .i64 b3, .int .i64 c1, .int .i64 c2, .int .i64 c3, .int .i64 d1, .int .i64 d2, .int .i64 d3][k]?) ∧ (∀ k, w'.cell? ⟨c, k, none⟩ = [.int .i64 i1, .int .i64 i2, .int .i64 i3, .int .i64 j1, .int .i64 j2, .int .i64 j3, .int .i64 k1, .int .i64 k2, .int .i64 k3, .int .i64 l1, .int .i64 l2, .int .i64 l3][k]?))
      (((try dsimp only); (refine ⟨Blk.cell ?_, Blk.cell ?_⟩ <;> (repeat' (first | (with_reducible first | assumption | refine Blk.drew ?_ | refine Blk.drewN ?_ _ | apply Blk.set | (refine Blk.new ?_; focus (first | rfl | (simp; done))) | refine Blk.alloc ?_ _ | refine Blk.other ?_ ?_ _) | exact eqL rfl | (refine neB ?_; omega))))))
      (first
        | (go_at_call 77; refine (mrow_1 a1 a2 a3 b1 b2 b3 c1 c2 c3 d1 d2 d3 _).mono ?_; rintro e W1 ⟨rfl, hb⟩; have Bb : Blk W1 (b) [.int .i64 a1, .int .i64 a2, .int .i64 a3, .int .i64 b1, .int .i64 b2, .int .i64 b3, .int .i64 c1, .int .i64 c2, .int .i64 c3, .int .i64 d1, .int .i64 d2, .int .i64 d3] := Blk.keep hb (by repeat' (first | (with_reducible first | assumption | refine Blk.drew ?_ | refine Blk.drewN ?_ _ | apply Blk.set | (refine Blk.new ?_; focus (first | rfl | (simp; done))) | refine Blk.alloc ?_ _ | refine Blk.other ?_ ?_ _) | exact eqL rfl | (refine neB ?_; omega))); have Bc : Blk W1 (c) [.int .i64 i1, .int .i64 i2, .int .i64 i3, .int .i64 j1, .int .i64 j2, .int .i64 j3, .int .i64 k1, .int .i64 k2, .int .i64 k3, .int .i64 l1, .int .i64 l2, .int .i64 l3] := Blk.keep hb (by repeat' (first | (with_reducible first | assumption | refine Blk.drew ?_ | refine Blk.drewN ?_ _ | apply Blk.set | (refine Blk.new ?_; focus (first | rfl | (simp; done))) | refine Blk.alloc ?_ _ | refine Blk.other ?_ ?_ _) | exact eqL rfl | (refine neB ?_; omega))); have Bz : Blk W1 (w.heap.size) [.int .i64 0, .int .i64 0, .int .i64 0] := Blk.keep hb (by repeat' (first | (with_reducible first | assumption | refine Blk.drew ?_ | refine Blk.drewN ?_ _ | apply Blk.set | (refine Blk.new ?_; focus (first | rfl | (simp; done))) | refine Blk.alloc ?_ _ | refine Blk.other ?_ ?_ _) | exact eqL rfl | (refine neB ?_; omega))); have cb := Bb.cell; have fb := Bb.free; have lb_W1 := Bb.lt; have cc := Bc.cell; have fc := Bc.free; have lc_W1 := Bc.lt; have cz := Bz.cell; have fz := Bz.free; have lz_W1 := Bz.lt; have kaW1 : Acc w W1 := (by refine Acc.call ?_ hb; (repeat' (first | (with_reducible first | assumption | exact Acc.refl _ | refine Acc.drew ?_ | refine Acc.drewN ?_ _ | refine Acc.alloc ?_ _ | refine Acc.setCell ?_ ?_ _) | (refine leB ?_; omega)))); clear hb)
        | (go_at_call 105; refine (mcolumn_0 i1 i2 i3 j1 j2 j3 k1 k2 k3 l1 l2 l3 _).mono ?_; rintro e W2 ⟨rfl, hb⟩; have Bb : Blk W2 (b) [.int .i64 a1, .int .i64 a2, .int .i64 a3, .int .i64 b1, .int .i64 b2, .int .i64 b3, .int .i64 c1, .int .i64 c2, .int .i64 c3, .int .i64 d1, .int .i64 d2, .int .i64 d3] := Blk.keep hb (by repeat' (first | (with_reducible first | assumption | refine Blk.drew ?_ | refine Blk.drewN ?_ _ | apply Blk.set | (refine Blk.new ?_; focus (first | rfl | (simp; done))) | refine Blk.alloc ?_ _ | refine Blk.other ?_ ?_ _) | exact eqL rfl | (refine neB ?_; omega))); have Bc : Blk W2 (c) [.int .i64 i1, .int .i64 i2, .int .i64 i3, .int .i64 j1, .int .i64 j2, .int .i64 j3, .int .i64 k1, .int .i64 k2, .int .i64 k3, .int .i64 l1, .int .i64 l2, .int .i64 l3] := Blk.keep hb (by repeat' (first | (with_reducible first | assumption | refine Blk.drew ?_ | refine Blk.drewN ?_ _ | apply Blk.set | (refine Blk.new ?_; focus (first | rfl | (simp; done))) | refine Blk.alloc ?_ _ | refine Blk.other ?_ ?_ _) | exact eqL rfl | (refine neB ?_; omega))); have Bz : Blk W2 (w.heap.size) [.int .i64 0, .int .i64 0, .int .i64 0] := Blk.keep hb (by repeat' (first | (with_reducible first | assumption | refine Blk.drew ?_ | refine Blk.drewN ?_ _ | apply Blk.set | (refine Blk.new ?_; focus (first | rfl | (simp; done))) | refine Blk.alloc ?_ _ | refine Blk.other ?_ ?_ _) | exact eqL rfl | (refine neB ?_; omega))); have cb := Bb.cell; have fb := Bb.free; have lb_W2 := Bb.lt; have cc := Bc.cell; have fc := Bc.free; have lc_W2 := Bc.lt; have cz := Bz.cell; have fz := Bz.free; have lz_W2 := Bz.lt; have kaW2 : Acc w W2 := (by refine Acc.call ?_ hb; (repeat' (first | (with_reducible first | assumption | exact Acc.refl _ | refine Acc.drew ?_ | refine Acc.drewN ?_ _ | refine Acc.alloc ?_ _ | refine Acc.setCell ?_ ?_ _) | (refine leB ?_; omega)))); clear hb)
        | (go_at_call 78; refine (D.out _).mono ?_; rintro e W8 ⟨⟨s, rfl⟩, hb⟩; have Bb : Blk W8 (b) [.int .i64 a1, .int .i64 a2, .int .i64 a3, .int .i64 b1, .int .i64 b2, .int .i64 b3, .int .i64 c1, .int .i64 c2, .int .i64 c3, .int .i64 d1, .int .i64 d2, .int .i64 d3] := Blk.keep hb (by repeat' (first | (with_reducible first | assumption | refine Blk.drew ?_ | refine Blk.drewN ?_ _ | apply Blk.set | (refine Blk.new ?_; focus (first | rfl | (simp; done))) | refine Blk.alloc ?_ _ | refine Blk.other ?_ ?_ _) | exact eqL rfl | (refine neB ?_; omega))); have Bc : Blk W8 (c) [.int .i64 i1, .int .i64 i2, .int .i64 i3, .int .i64 j1, .int .i64 j2, .int .i64 j3, .int .i64 k1, .int .i64 k2, .int .i64 k3, .int .i64 l1, .int .i64 l2, .int .i64 l3] := Blk.keep hb (by repeat' (first | (with_reducible first | assumption | refine Blk.drew ?_ | refine Blk.drewN ?_ _ | apply Blk.set | (refine Blk.new ?_; focus (first | rfl | (simp; done))) | refine Blk.alloc ?_ _ | refine Blk.other ?_ ?_ _) | exact eqL rfl | (refine neB ?_; omega))); have Bz : Blk W8 (w.heap.size) [.int .i64 0, .int .i64 0, .int .i64 0] := Blk.keep hb (by repeat' (first | (with_reducible first | assumption | refine Blk.drew ?_ | refine Blk.drewN ?_ _ | apply Blk.set | (refine Blk.new ?_; focus (first | rfl | (simp; done))) | refine Blk.alloc ?_ _ | refine Blk.other ?_ ?_ _) | exact eqL rfl | (refine neB ?_; omega))); have cb := Bb.cell; have fb := Bb.free; have lb_W8 := Bb.lt; have cc := Bc.cell; have fc := Bc.free; have lc_W8 := Bc.lt; have cz := Bz.cell; have fz := Bz.free; have lz_W8 := Bz.lt; have kaW8 : Acc w W8 := (by refine Acc.call ?_ hb; (repeat' (first | (with_reducible first | assumption | exact Acc.refl _ | refine Acc.drew ?_ | refine Acc.drewN ?_ _ | refine Acc.alloc ?_ _ | refine Acc.setCell ?_ ?_ _) | (refine leB ?_; omega)))); clear hb))
    all_goals
      go_wp2_with fail
      refine bodyPost_ret (v := .tuple #[.agg #[.int .i64 0, .int .i64 0, .int .i64 0], .iface 142 (.agg #[.string s])]) (by simp [results, Tryz.results104, go_sem, *]) rfl ⟨fun _ _ _ h => (by cases h), fun _ => ⟨_, rfl⟩, ?_⟩
      show Acc w _
      (repeat' (first | (with_reducible first | assumption | exact Acc.refl _ | refine Acc.drew ?_ | refine Acc.drewN ?_ _ | refine Acc.alloc ?_ _ | refine Acc.setCell ?_ ?_ _) | (refine leB ?_; omega)))
  | some v =>
    obtain ⟨p, q, r⟩ := v
    have D := Lib.hid fun w => (vsum_any c1 c2 c3 d1 d2 d3 i1 i2 i3 k1 k2 k3 hc1 hc2 hc3 hd1 hd2 hd3 hi1 hi2 hi3 hk1 hk2 hk3 w).mono fun e w' h => And.intro (h.1 _ _ _ ho) h.2.2
    clear ho
    have ew0 : IntKind.i64.wrap 0 = 0 := by decide
    have ew1 : IntKind.i64.wrap 1 = 1 := by decide
    have ix0 := idxVec_0
    have ix1 := idxVec_1
    go_enter Tryz.func104, Tryz.ntmps104
    go_upto_region 1 with fail
    go_region_held3 (fun w' => (∀ k, w'.cell? ⟨b, k, none⟩ = [.int .i64 a1, .int .i64 a2, .int .i64 a3, .int .i64 b1, .int .i64 b2, .int .i64 b3, .int .i64 c1, .int .i64 c2, .int .i64 c3, .int .i64 d1, .int .i64 d2, .int .i64 d3][k]?) ∧ (∀ k, w'.cell? ⟨c, k, none⟩ = [.int .i64 i1, .int .i64 i2, .int .i64 i3, .int .i64 j1, .int .i64 j2, .int .i64 j3, .int .i64 k1, .int .i64 k2, .int .i64 k3, .int .i64 l1, .int .i64 l2, .int .i64 l3][k]?))
      (((try dsimp only); (refine ⟨Blk.cell ?_, Blk.cell ?_⟩ <;> (repeat' (first | (with_reducible first | assumption | refine Blk.drew ?_ | refine Blk.drewN ?_ _ | apply Blk.set | (refine Blk.new ?_; focus (first | rfl | (simp; done))) | refine Blk.alloc ?_ _ | refine Blk.other ?_ ?_ _) | exact eqL rfl | (refine neB ?_; omega))))))
      (first
        | (go_at_call 77; refine (mrow_1 a1 a2 a3 b1 b2 b3 c1 c2 c3 d1 d2 d3 _).mono ?_; rintro e W1 ⟨rfl, hb⟩; have Bb : Blk W1 (b) [.int .i64 a1, .int .i64 a2, .int .i64 a3, .int .i64 b1, .int .i64 b2, .int .i64 b3, .int .i64 c1, .int .i64 c2, .int .i64 c3, .int .i64 d1, .int .i64 d2, .int .i64 d3] := Blk.keep hb (by repeat' (first | (with_reducible first | assumption | refine Blk.drew ?_ | refine Blk.drewN ?_ _ | apply Blk.set | (refine Blk.new ?_; focus (first | rfl | (simp; done))) | refine Blk.alloc ?_ _ | refine Blk.other ?_ ?_ _) | exact eqL rfl | (refine neB ?_; omega))); have Bc : Blk W1 (c) [.int .i64 i1, .int .i64 i2, .int .i64 i3, .int .i64 j1, .int .i64 j2, .int .i64 j3, .int .i64 k1, .int .i64 k2, .int .i64 k3, .int .i64 l1, .int .i64 l2, .int .i64 l3] := Blk.keep hb (by repeat' (first | (with_reducible first | assumption | refine Blk.drew ?_ | refine Blk.drewN ?_ _ | apply Blk.set | (refine Blk.new ?_; focus (first | rfl | (simp; done))) | refine Blk.alloc ?_ _ | refine Blk.other ?_ ?_ _) | exact eqL rfl | (refine neB ?_; omega))); have Bz : Blk W1 (w.heap.size) [.int .i64 0, .int .i64 0, .int .i64 0] := Blk.keep hb (by repeat' (first | (with_reducible first | assumption | refine Blk.drew ?_ | refine Blk.drewN ?_ _ | apply Blk.set | (refine Blk.new ?_; focus (first | rfl | (simp; done))) | refine Blk.alloc ?_ _ | refine Blk.other ?_ ?_ _) | exact eqL rfl | (refine neB ?_; omega))); have cb := Bb.cell; have fb := Bb.free; have lb_W1 := Bb.lt; have cc := Bc.cell; have fc := Bc.free; have lc_W1 := Bc.lt; have cz := Bz.cell; have fz := Bz.free; have lz_W1 := Bz.lt; have kaW1 : Acc w W1 := (by refine Acc.call ?_ hb; (repeat' (first | (with_reducible first | assumption | exact Acc.refl _ | refine Acc.drew ?_ | refine Acc.drewN ?_ _ | refine Acc.alloc ?_ _ | refine Acc.setCell ?_ ?_ _) | (refine leB ?_; omega)))); clear hb)
        | (go_at_call 105; refine (mcolumn_0 i1 i2 i3 j1 j2 j3 k1 k2 k3 l1 l2 l3 _).mono ?_; rintro e W2 ⟨rfl, hb⟩; have Bb : Blk W2 (b) [.int .i64 a1, .int .i64 a2, .int .i64 a3, .int .i64 b1, .int .i64 b2, .int .i64 b3, .int .i64 c1, .int .i64 c2, .int .i64 c3, .int .i64 d1, .int .i64 d2, .int .i64 d3] := Blk.keep hb (by repeat' (first | (with_reducible first | assumption | refine Blk.drew ?_ | refine Blk.drewN ?_ _ | apply Blk.set | (refine Blk.new ?_; focus (first | rfl | (simp; done))) | refine Blk.alloc ?_ _ | refine Blk.other ?_ ?_ _) | exact eqL rfl | (refine neB ?_; omega))); have Bc : Blk W2 (c) [.int .i64 i1, .int .i64 i2, .int .i64 i3, .int .i64 j1, .int .i64 j2, .int .i64 j3, .int .i64 k1, .int .i64 k2, .int .i64 k3, .int .i64 l1, .int .i64 l2, .int .i64 l3] := Blk.keep hb (by repeat' (first | (with_reducible first | assumption | refine Blk.drew ?_ | refine Blk.drewN ?_ _ | apply Blk.set | (refine Blk.new ?_; focus (first | rfl | (simp; done))) | refine Blk.alloc ?_ _ | refine Blk.other ?_ ?_ _) | exact eqL rfl | (refine neB ?_; omega))); have Bz : Blk W2 (w.heap.size) [.int .i64 0, .int .i64 0, .int .i64 0] := Blk.keep hb (by repeat' (first | (with_reducible first | assumption | refine Blk.drew ?_ | refine Blk.drewN ?_ _ | apply Blk.set | (refine Blk.new ?_; focus (first | rfl | (simp; done))) | refine Blk.alloc ?_ _ | refine Blk.other ?_ ?_ _) | exact eqL rfl | (refine neB ?_; omega))); have cb := Bb.cell; have fb := Bb.free; have lb_W2 := Bb.lt; have cc := Bc.cell; have fc := Bc.free; have lc_W2 := Bc.lt; have cz := Bz.cell; have fz := Bz.free; have lz_W2 := Bz.lt; have kaW2 : Acc w W2 := (by refine Acc.call ?_ hb; (repeat' (first | (with_reducible first | assumption | exact Acc.refl _ | refine Acc.drew ?_ | refine Acc.drewN ?_ _ | refine Acc.alloc ?_ _ | refine Acc.setCell ?_ ?_ _) | (refine leB ?_; omega)))); clear hb)
        | (go_at_call 78; refine (D.out _).mono ?_; rintro e W8 ⟨rfl, hb⟩; have Bb : Blk W8 (b) [.int .i64 a1, .int .i64 a2, .int .i64 a3, .int .i64 b1, .int .i64 b2, .int .i64 b3, .int .i64 c1, .int .i64 c2, .int .i64 c3, .int .i64 d1, .int .i64 d2, .int .i64 d3] := Blk.keep hb (by repeat' (first | (with_reducible first | assumption | refine Blk.drew ?_ | refine Blk.drewN ?_ _ | apply Blk.set | (refine Blk.new ?_; focus (first | rfl | (simp; done))) | refine Blk.alloc ?_ _ | refine Blk.other ?_ ?_ _) | exact eqL rfl | (refine neB ?_; omega))); have Bc : Blk W8 (c) [.int .i64 i1, .int .i64 i2, .int .i64 i3, .int .i64 j1, .int .i64 j2, .int .i64 j3, .int .i64 k1, .int .i64 k2, .int .i64 k3, .int .i64 l1, .int .i64 l2, .int .i64 l3] := Blk.keep hb (by repeat' (first | (with_reducible first | assumption | refine Blk.drew ?_ | refine Blk.drewN ?_ _ | apply Blk.set | (refine Blk.new ?_; focus (first | rfl | (simp; done))) | refine Blk.alloc ?_ _ | refine Blk.other ?_ ?_ _) | exact eqL rfl | (refine neB ?_; omega))); have Bz : Blk W8 (w.heap.size) [.int .i64 0, .int .i64 0, .int .i64 0] := Blk.keep hb (by repeat' (first | (with_reducible first | assumption | refine Blk.drew ?_ | refine Blk.drewN ?_ _ | apply Blk.set | (refine Blk.new ?_; focus (first | rfl | (simp; done))) | refine Blk.alloc ?_ _ | refine Blk.other ?_ ?_ _) | exact eqL rfl | (refine neB ?_; omega))); have cb := Bb.cell; have fb := Bb.free; have lb_W8 := Bb.lt; have cc := Bc.cell; have fc := Bc.free; have lc_W8 := Bc.lt; have cz := Bz.cell; have fz := Bz.free; have lz_W8 := Bz.lt; have kaW8 : Acc w W8 := (by refine Acc.call ?_ hb; (repeat' (first | (with_reducible first | assumption | exact Acc.refl _ | refine Acc.drew ?_ | refine Acc.drewN ?_ _ | refine Acc.alloc ?_ _ | refine Acc.setCell ?_ ?_ _) | (refine leB ?_; omega)))); clear hb))
    all_goals
      go_wp2_with fail
      refine bodyPost_ret (v := .tuple #[.agg #[.int .i64 p, .int .i64 q, .int .i64 r], .nilIface]) (by simp [results, Tryz.results104, go_sem, *]) rfl ⟨fun _ _ _ h => (by cases h; rfl), fun h => (by cases h), ?_⟩
      show Acc w _
      (repeat' (first | (with_reducible first | assumption | exact Acc.refl _ | refine Acc.drew ?_ | refine Acc.drewN ?_ _ | refine Acc.alloc ?_ _ | refine Acc.setCell ?_ ?_ _) | (refine leB ?_; omega)))
set_option maxHeartbeats 4000000 in
theorem mtimesClo_11 (b c : Nat) (a1 a2 a3 b1 b2 b3 c1 c2 c3 d1 d2 d3 i1 i2 i3 j1 j2 j3 k1 k2 k3 l1 l2 l3 : Int) (ha1 : i64B a1) (ha2 : i64B a2) (ha3 : i64B a3) (hb1 : i64B b1) (hb2 : i64B b2) (hb3 : i64B b3) (hc1 : i64B c1) (hc2 : i64B c2) (hc3 : i64B c3) (hd1 : i64B d1) (hd2 : i64B d2) (hd3 : i64B d3) (hi1 : i64B i1) (hi2 : i64B i2) (hi3 : i64B i3) (hj1 : i64B j1) (hj2 : i64B j2) (hj3 : i64B j3) (hk1 : i64B k1) (hk2 : i64B k2) (hk3 : i64B k3) (hl1 : i64B l1) (hl2 : i64B l2) (hl3 : i64B l3) (w : World) (Bb : Blk w b [.int .i64 a1, .int .i64 a2, .int .i64 a3, .int .i64 b1, .int .i64 b2, .int .i64 b3, .int .i64 c1, .int .i64 c2, .int .i64 c3, .int .i64 d1, .int .i64 d2, .int .i64 d3]) (Bc : Blk w c [.int .i64 i1, .int .i64 i2, .int .i64 i3, .int .i64 j1, .int .i64 j2, .int .i64 j3, .int .i64 k1, .int .i64 k2, .int .i64 k3, .int .i64 l1, .int .i64 l2, .int .i64 l3]) :
    Calls Tryz.prog 104 #[.int .i64 1, .int .i64 1, .pointer (some ⟨b, 0, none⟩), .pointer (some ⟨c, 0, none⟩)] w (Erred (innF c1 c2 c3 j1 j2 j3 d1 d2 d3 l1 l2 l3) w) := by
  have cb := Bb.cell
  have fb := Bb.free
  have lb_w := Bb.lt
  have cc := Bc.cell
  have fc := Bc.free
  have lc_w := Bc.lt
  cases ho : innF c1 c2 c3 j1 j2 j3 d1 d2 d3 l1 l2 l3 with
  | none =>
    have D := Lib.hid fun w => (vsum_any c1 c2 c3 d1 d2 d3 j1 j2 j3 l1 l2 l3 hc1 hc2 hc3 hd1 hd2 hd3 hj1 hj2 hj3 hl1 hl2 hl3 w).mono fun e w' h => And.intro (h.2.1 ho) h.2.2
    clear ho
    have ew0 : IntKind.i64.wrap 0 = 0 := by decide
    have ew1 : IntKind.i64.wrap 1 = 1 := by decide
    have ix0 := idxVec_0
    have ix1 := idxVec_1
    go_enter Tryz.func104, Tryz.ntmps104
    go_upto_region 1 with fail
    go_region_held3 (fun w' => (∀ k, w'.cell? ⟨b, k, none⟩ = [.int .i64 a1, .int .i64 a2, .int .i64 a3, .int .i64 b1, .int .i64 b2, .int .i64 b3, .int .i64 c1, .int .i64 c2, .int .i64 c3, .int .i64 d1, .int .i64 d2, .int .i64 d3][k]?) ∧ (∀ k, w'.cell? ⟨c, k, none⟩ = [.int .i64 i1, .int .i64 i2, .int .i64 i3, .int .i64 j1, .int .i64 j2, .int .i64 j3, .int .i64 k1, .int .i64 k2, .int .i64 k3, .int .i64 l1, .int .i64 l2, .int .i64 l3][k]?))
      (((try dsimp only); (refine ⟨Blk.cell ?_, Blk.cell ?_⟩ <;> (repeat' (first | (with_reducible first | assumption | refine Blk.drew ?_ | refine Blk.drewN ?_ _ | apply Blk.set | (refine Blk.new ?_; focus (first | rfl | (simp; done))) | refine Blk.alloc ?_ _ | refine Blk.other ?_ ?_ _) | exact eqL rfl | (refine neB ?_; omega))))))
      (first
        | (go_at_call 77; refine (mrow_1 a1 a2 a3 b1 b2 b3 c1 c2 c3 d1 d2 d3 _).mono ?_; rintro e W1 ⟨rfl, hb⟩; have Bb : Blk W1 (b) [.int .i64 a1, .int .i64 a2, .int .i64 a3, .int .i64 b1, .int .i64 b2, .int .i64 b3, .int .i64 c1, .int .i64 c2, .int .i64 c3, .int .i64 d1, .int .i64 d2, .int .i64 d3] := Blk.keep hb (by repeat' (first | (with_reducible first | assumption | refine Blk.drew ?_ | refine Blk.drewN ?_ _ | apply Blk.set | (refine Blk.new ?_; focus (first | rfl | (simp; done))) | refine Blk.alloc ?_ _ | refine Blk.other ?_ ?_ _) | exact eqL rfl | (refine neB ?_; omega))); have Bc : Blk W1 (c) [.int .i64 i1, .int .i64 i2, .int .i64 i3, .int .i64 j1, .int .i64 j2, .int .i64 j3, .int .i64 k1, .int .i64 k2, .int .i64 k3, .int .i64 l1, .int .i64 l2, .int .i64 l3] := Blk.keep hb (by repeat' (first | (with_reducible first | assumption | refine Blk.drew ?_ | refine Blk.drewN ?_ _ | apply Blk.set | (refine Blk.new ?_; focus (first | rfl | (simp; done))) | refine Blk.alloc ?_ _ | refine Blk.other ?_ ?_ _) | exact eqL rfl | (refine neB ?_; omega))); have Bz : Blk W1 (w.heap.size) [.int .i64 0, .int .i64 0, .int .i64 0] := Blk.keep hb (by repeat' (first | (with_reducible first | assumption | refine Blk.drew ?_ | refine Blk.drewN ?_ _ | apply Blk.set | (refine Blk.new ?_; focus (first | rfl | (simp; done))) | refine Blk.alloc ?_ _ | refine Blk.other ?_ ?_ _) | exact eqL rfl | (refine neB ?_; omega))); have cb := Bb.cell; have fb := Bb.free; have lb_W1 := Bb.lt; have cc := Bc.cell; have fc := Bc.free; have lc_W1 := Bc.lt; have cz := Bz.cell; have fz := Bz.free; have lz_W1 := Bz.lt; have kaW1 : Acc w W1 := (by refine Acc.call ?_ hb; (repeat' (first | (with_reducible first | assumption | exact Acc.refl _ | refine Acc.drew ?_ | refine Acc.drewN ?_ _ | refine Acc.alloc ?_ _ | refine Acc.setCell ?_ ?_ _) | (refine leB ?_; omega)))); clear hb)
        | (go_at_call 105; refine (mcolumn_1 i1 i2 i3 j1 j2 j3 k1 k2 k3 l1 l2 l3 _).mono ?_; rintro e W2 ⟨rfl, hb⟩; have Bb : Blk W2 (b) [.int .i64 a1, .int .i64 a2, .int .i64 a3, .int .i64 b1, .int .i64 b2, .int .i64 b3, .int .i64 c1, .int .i64 c2, .int .i64 c3, .int .i64 d1, .int .i64 d2, .int .i64 d3] := Blk.keep hb (by repeat' (first | (with_reducible first | assumption | refine Blk.drew ?_ | refine Blk.drewN ?_ _ | apply Blk.set | (refine Blk.new ?_; focus (first | rfl | (simp; done))) | refine Blk.alloc ?_ _ | refine Blk.other ?_ ?_ _) | exact eqL rfl | (refine neB ?_; omega))); have Bc : Blk W2 (c) [.int .i64 i1, .int .i64 i2, .int .i64 i3, .int .i64 j1, .int .i64 j2, .int .i64 j3, .int .i64 k1, .int .i64 k2, .int .i64 k3, .int .i64 l1, .int .i64 l2, .int .i64 l3] := Blk.keep hb (by repeat' (first | (with_reducible first | assumption | refine Blk.drew ?_ | refine Blk.drewN ?_ _ | apply Blk.set | (refine Blk.new ?_; focus (first | rfl | (simp; done))) | refine Blk.alloc ?_ _ | refine Blk.other ?_ ?_ _) | exact eqL rfl | (refine neB ?_; omega))); have Bz : Blk W2 (w.heap.size) [.int .i64 0, .int .i64 0, .int .i64 0] := Blk.keep hb (by repeat' (first | (with_reducible first | assumption | refine Blk.drew ?_ | refine Blk.drewN ?_ _ | apply Blk.set | (refine Blk.new ?_; focus (first | rfl | (simp; done))) | refine Blk.alloc ?_ _ | refine Blk.other ?_ ?_ _) | exact eqL rfl | (refine neB ?_; omega))); have cb := Bb.cell; have fb := Bb.free; have lb_W2 := Bb.lt; have cc := Bc.cell; have fc := Bc.free; have lc_W2 := Bc.lt; have cz := Bz.cell; have fz := Bz.free; have lz_W2 := Bz.lt; have kaW2 : Acc w W2 := (by refine Acc.call ?_ hb; (repeat' (first | (with_reducible first | assumption | exact Acc.refl _ | refine Acc.drew ?_ | refine Acc.drewN ?_ _ | refine Acc.alloc ?_ _ | refine Acc.setCell ?_ ?_ _) | (refine leB ?_; omega)))); clear hb)
        | (go_at_call 78; refine (D.out _).mono ?_; rintro e W8 ⟨⟨s, rfl⟩, hb⟩; have Bb : Blk W8 (b) [.int .i64 a1, .int .i64 a2, .int .i64 a3, .int .i64 b1, .int .i64 b2, .int .i64 b3, .int .i64 c1, .int .i64 c2, .int .i64 c3, .int .i64 d1, .int .i64 d2, .int .i64 d3] := Blk.keep hb (by repeat' (first | (with_reducible first | assumption | refine Blk.drew ?_ | refine Blk.drewN ?_ _ | apply Blk.set | (refine Blk.new ?_; focus (first | rfl | (simp; done))) | refine Blk.alloc ?_ _ | refine Blk.other ?_ ?_ _) | exact eqL rfl | (refine neB ?_; omega))); have Bc : Blk W8 (c) [.int .i64 i1, .int .i64 i2, .int .i64 i3, .int .i64 j1, .int .i64 j2, .int .i64 j3, .int .i64 k1, .int .i64 k2, .int .i64 k3, .int .i64 l1, .int .i64 l2, .int .i64 l3] := Blk.keep hb (by repeat' (first | (with_reducible first | assumption | refine Blk.drew ?_ | refine Blk.drewN ?_ _ | apply Blk.set | (refine Blk.new ?_; focus (first | rfl | (simp; done))) | refine Blk.alloc ?_ _ | refine Blk.other ?_ ?_ _) | exact eqL rfl | (refine neB ?_; omega))); have Bz : Blk W8 (w.heap.size) [.int .i64 0, .int .i64 0, .int .i64 0] := Blk.keep hb (by repeat' (first | (with_reducible first | assumption | refine Blk.drew ?_ | refine Blk.drewN ?_ _ | apply Blk.set | (refine Blk.new ?_; focus (first | rfl | (simp; done))) | refine Blk.alloc ?_ _ | refine Blk.other ?_ ?_ _) | exact eqL rfl | (refine neB ?_; omega))); have cb := Bb.cell; have fb := Bb.free; have lb_W8 := Bb.lt; have cc := Bc.cell; have fc := Bc.free; have lc_W8 := Bc.lt; have cz := Bz.cell; have fz := Bz.free; have lz_W8 := Bz.lt; have kaW8 : Acc w W8 := (by refine Acc.call ?_ hb; (repeat' (first | (with_reducible first | assumption | exact Acc.refl _ | refine Acc.drew ?_ | refine Acc.drewN ?_ _ | refine Acc.alloc ?_ _ | refine Acc.setCell ?_ ?_ _) | (refine leB ?_; omega)))); clear hb))
    all_goals
      go_wp2_with fail
      refine bodyPost_ret (v := .tuple #[.agg #[.int .i64 0, .int .i64 0, .int .i64 0], .iface 142 (.agg #[.string s])]) (by simp [results, Tryz.results104, go_sem, *]) rfl ⟨fun _ _ _ h => (by cases h), fun _ => ⟨_, rfl⟩, ?_⟩
      show Acc w _
      (repeat' (first | (with_reducible first | assumption | exact Acc.refl _ | refine Acc.drew ?_ | refine Acc.drewN ?_ _ | refine Acc.alloc ?_ _ | refine Acc.setCell ?_ ?_ _) | (refine leB ?_; omega)))
  | some v =>
    obtain ⟨p, q, r⟩ := v
    have D := Lib.hid fun w => (vsum_any c1 c2 c3 d1 d2 d3 j1 j2 j3 l1 l2 l3 hc1 hc2 hc3 hd1 hd2 hd3 hj1 hj2 hj3 hl1 hl2 hl3 w).mono fun e w' h => And.intro (h.1 _ _ _ ho) h.2.2
    clear ho
    have ew0 : IntKind.i64.wrap 0 = 0 := by decide
    have ew1 : IntKind.i64.wrap 1 = 1 := by decide
    have ix0 := idxVec_0
    have ix1 := idxVec_1
    go_enter Tryz.func104, Tryz.ntmps104
    go_upto_region 1 with fail
    go_region_held3 (fun w' => (∀ k, w'.cell? ⟨b, k, none⟩ = [.int .i64 a1, .int .i64 a2, .int .i64 a3, .int .i64 b1, .int .i64 b2, .int .i64 b3, .int .i64 c1, .int .i64 c2, .int .i64 c3, .int .i64 d1, .int .i64 d2, .int .i64 d3][k]?) ∧ (∀ k, w'.cell? ⟨c, k, none⟩ = [.int .i64 i1, .int .i64 i2, .int .i64 i3, .int .i64 j1, .int .i64 j2, .int .i64 j3, .int .i64 k1, .int .i64 k2, .int .i64 k3, .int .i64 l1, .int .i64 l2, .int .i64 l3][k]?))
      (((try dsimp only); (refine ⟨Blk.cell ?_, Blk.cell ?_⟩ <;> (repeat' (first | (with_reducible first | assumption | refine Blk.drew ?_ | refine Blk.drewN ?_ _ | apply Blk.set | (refine Blk.new ?_; focus (first | rfl | (simp; done))) | refine Blk.alloc ?_ _ | refine Blk.other ?_ ?_ _) | exact eqL rfl | (refine neB ?_; omega))))))
      (first
        | (go_at_call 77; refine (mrow_1 a1 a2 a3 b1 b2 b3 c1 c2 c3 d1 d2 d3 _).mono ?_; rintro e W1 ⟨rfl, hb⟩; have Bb : Blk W1 (b) [.int .i64 a1, .int .i64 a2, .int .i64 a3, .int .i64 b1, .int .i64 b2, .int .i64 b3, .int .i64 c1, .int .i64 c2, .int .i64 c3, .int .i64 d1, .int .i64 d2, .int .i64 d3] := Blk.keep hb (by repeat' (first | (with_reducible first | assumption | refine Blk.drew ?_ | refine Blk.drewN ?_ _ | apply Blk.set | (refine Blk.new ?_; focus (first | rfl | (simp; done))) | refine Blk.alloc ?_ _ | refine Blk.other ?_ ?_ _) | exact eqL rfl | (refine neB ?_; omega))); have Bc : Blk W1 (c) [.int .i64 i1, .int .i64 i2, .int .i64 i3, .int .i64 j1, .int .i64 j2, .int .i64 j3, .int .i64 k1, .int .i64 k2, .int .i64 k3, .int .i64 l1, .int .i64 l2, .int .i64 l3] := Blk.keep hb (by repeat' (first | (with_reducible first | assumption | refine Blk.drew ?_ | refine Blk.drewN ?_ _ | apply Blk.set | (refine Blk.new ?_; focus (first | rfl | (simp; done))) | refine Blk.alloc ?_ _ | refine Blk.other ?_ ?_ _) | exact eqL rfl | (refine neB ?_; omega))); have Bz : Blk W1 (w.heap.size) [.int .i64 0, .int .i64 0, .int .i64 0] := Blk.keep hb (by repeat' (first | (with_reducible first | assumption | refine Blk.drew ?_ | refine Blk.drewN ?_ _ | apply Blk.set | (refine Blk.new ?_; focus (first | rfl | (simp; done))) | refine Blk.alloc ?_ _ | refine Blk.other ?_ ?_ _) | exact eqL rfl | (refine neB ?_; omega))); have cb := Bb.cell; have fb := Bb.free; have lb_W1 := Bb.lt; have cc := Bc.cell; have fc := Bc.free; have lc_W1 := Bc.lt; have cz := Bz.cell; have fz := Bz.free; have lz_W1 := Bz.lt; have kaW1 : Acc w W1 := (by refine Acc.call ?_ hb; (repeat' (first | (with_reducible first | assumption | exact Acc.refl _ | refine Acc.drew ?_ | refine Acc.drewN ?_ _ | refine Acc.alloc ?_ _ | refine Acc.setCell ?_ ?_ _) | (refine leB ?_; omega)))); clear hb)
        | (go_at_call 105; refine (mcolumn_1 i1 i2 i3 j1 j2 j3 k1 k2 k3 l1 l2 l3 _).mono ?_; rintro e W2 ⟨rfl, hb⟩; have Bb : Blk W2 (b) [.int .i64 a1, .int .i64 a2, .int .i64 a3, .int .i64 b1, .int .i64 b2, .int .i64 b3, .int .i64 c1, .int .i64 c2, .int .i64 c3, .int .i64 d1, .int .i64 d2, .int .i64 d3] := Blk.keep hb (by repeat' (first | (with_reducible first | assumption | refine Blk.drew ?_ | refine Blk.drewN ?_ _ | apply Blk.set | (refine Blk.new ?_; focus (first | rfl | (simp; done))) | refine Blk.alloc ?_ _ | refine Blk.other ?_ ?_ _) | exact eqL rfl | (refine neB ?_; omega))); have Bc : Blk W2 (c) [.int .i64 i1, .int .i64 i2, .int .i64 i3, .int .i64 j1, .int .i64 j2, .int .i64 j3, .int .i64 k1, .int .i64 k2, .int .i64 k3, .int .i64 l1, .int .i64 l2, .int .i64 l3] := Blk.keep hb (by repeat' (first | (with_reducible first | assumption | refine Blk.drew ?_ | refine Blk.drewN ?_ _ | apply Blk.set | (refine Blk.new ?_; focus (first | rfl | (simp; done))) | refine Blk.alloc ?_ _ | refine Blk.other ?_ ?_ _) | exact eqL rfl | (refine neB ?_; omega))); have Bz : Blk W2 (w.heap.size) [.int .i64 0, .int .i64 0, .int .i64 0] := Blk.keep hb (by repeat' (first | (with_reducible first | assumption | refine Blk.drew ?_ | refine Blk.drewN ?_ _ | apply Blk.set | (refine Blk.new ?_; focus (first | rfl | (simp; done))) | refine Blk.alloc ?_ _ | refine Blk.other ?_ ?_ _) | exact eqL rfl | (refine neB ?_; omega))); have cb := Bb.cell; have fb := Bb.free; have lb_W2 := Bb.lt; have cc := Bc.cell; have fc := Bc.free; have lc_W2 := Bc.lt; have cz := Bz.cell; have fz := Bz.free; have lz_W2 := Bz.lt; have kaW2 : Acc w W2 := (by refine Acc.call ?_ hb; (repeat' (first | (with_reducible first | assumption | exact Acc.refl _ | refine Acc.drew ?_ | refine Acc.drewN ?_ _ | refine Acc.alloc ?_ _ | refine Acc.setCell ?_ ?_ _) | (refine leB ?_; omega)))); clear hb)
        | (go_at_call 78; refine (D.out _).mono ?_; rintro e W8 ⟨rfl, hb⟩; have Bb : Blk W8 (b) [.int .i64 a1, .int .i64 a2, .int .i64 a3, .int .i64 b1, .int .i64 b2, .int .i64 b3, .int .i64 c1, .int .i64 c2, .int .i64 c3, .int .i64 d1, .int .i64 d2, .int .i64 d3] := Blk.keep hb (by repeat' (first | (with_reducible first | assumption | refine Blk.drew ?_ | refine Blk.drewN ?_ _ | apply Blk.set | (refine Blk.new ?_; focus (first | rfl | (simp; done))) | refine Blk.alloc ?_ _ | refine Blk.other ?_ ?_ _) | exact eqL rfl | (refine neB ?_; omega))); have Bc : Blk W8 (c) [.int .i64 i1, .int .i64 i2, .int .i64 i3, .int .i64 j1, .int .i64 j2, .int .i64 j3, .int .i64 k1, .int .i64 k2, .int .i64 k3, .int .i64 l1, .int .i64 l2, .int .i64 l3] := Blk.keep hb (by repeat' (first | (with_reducible first | assumption | refine Blk.drew ?_ | refine Blk.drewN ?_ _ | apply Blk.set | (refine Blk.new ?_; focus (first | rfl | (simp; done))) | refine Blk.alloc ?_ _ | refine Blk.other ?_ ?_ _) | exact eqL rfl | (refine neB ?_; omega))); have Bz : Blk W8 (w.heap.size) [.int .i64 0, .int .i64 0, .int .i64 0] := Blk.keep hb (by repeat' (first | (with_reducible first | assumption | refine Blk.drew ?_ | refine Blk.drewN ?_ _ | apply Blk.set | (refine Blk.new ?_; focus (first | rfl | (simp; done))) | refine Blk.alloc ?_ _ | refine Blk.other ?_ ?_ _) | exact eqL rfl | (refine neB ?_; omega))); have cb := Bb.cell; have fb := Bb.free; have lb_W8 := Bb.lt; have cc := Bc.cell; have fc := Bc.free; have lc_W8 := Bc.lt; have cz := Bz.cell; have fz := Bz.free; have lz_W8 := Bz.lt; have kaW8 : Acc w W8 := (by refine Acc.call ?_ hb; (repeat' (first | (with_reducible first | assumption | exact Acc.refl _ | refine Acc.drew ?_ | refine Acc.drewN ?_ _ | refine Acc.alloc ?_ _ | refine Acc.setCell ?_ ?_ _) | (refine leB ?_; omega)))); clear hb))
    all_goals
      go_wp2_with fail
      refine bodyPost_ret (v := .tuple #[.agg #[.int .i64 p, .int .i64 q, .int .i64 r], .nilIface]) (by simp [results, Tryz.results104, go_sem, *]) rfl ⟨fun _ _ _ h => (by cases h; rfl), fun h => (by cases h), ?_⟩
      show Acc w _
      (repeat' (first | (with_reducible first | assumption | exact Acc.refl _ | refine Acc.drew ?_ | refine Acc.drewN ?_ _ | refine Acc.alloc ?_ _ | refine Acc.setCell ?_ ?_ _) | (refine leB ?_; omega)))
set_option maxHeartbeats 4000000 in
theorem madjClo_00 (b : Nat) (a1 a2 a3 b1 b2 b3 c1 c2 c3 d1 d2 d3 : Int) (ha1 : i64B a1) (ha2 : i64B a2) (ha3 : i64B a3) (hb1 : i64B b1) (hb2 : i64B b2) (hb3 : i64B b3) (hc1 : i64B c1) (hc2 : i64B c2) (hc3 : i64B c3) (hd1 : i64B d1) (hd2 : i64B d2) (hd3 : i64B d3) (w : World) (Bb : Blk w b [.int .i64 a1, .int .i64 a2, .int .i64 a3, .int .i64 b1, .int .i64 b2, .int .i64 b3, .int .i64 c1, .int .i64 c2, .int .i64 c3, .int .i64 d1, .int .i64 d2, .int .i64 d3]) :
    Calls Tryz.prog 154 #[.int .i64 0, .int .i64 0, .pointer (some ⟨b, 0, none⟩)] w (Erred (mirrorF a1 a2 a3) w) := by
  have cb := Bb.cell
  have fb := Bb.free
  have lb_w := Bb.lt
  cases ho : mirrorF a1 a2 a3 with
  | none =>
    have D := Lib.hid fun w => (mirror_any a1 a2 a3 w ha1 ha2 ha3).mono fun e w' h => And.intro (h.2.1 ho) h.2.2
    clear ho
    have ew0 : IntKind.i64.wrap 0 = 0 := by decide
    have ew1 : IntKind.i64.wrap 1 = 1 := by decide
    have ix0 := idxVec_0
    have ix1 := idxVec_1
    go_enter Tryz.func154, Tryz.ntmps154
    go_wp2_with fail
    refine (mrow_0 a1 a2 a3 b1 b2 b3 c1 c2 c3 d1 d2 d3 _).mono ?_
    rintro e W1 ⟨rfl, hb⟩
    obtain ⟨Bb, Bz⟩ : Blk W1 (b) [.int .i64 a1, .int .i64 a2, .int .i64 a3, .int .i64 b1, .int .i64 b2, .int .i64 b3, .int .i64 c1, .int .i64 c2, .int .i64 c3, .int .i64 d1, .int .i64 d2, .int .i64 d3] ∧ Blk W1 (w.heap.size) [.int .i64 0, .int .i64 0, .int .i64 0] := by
      refine ⟨?_, ?_⟩ <;> refine Blk.keep hb ?_ <;> (repeat' (first | (with_reducible first | assumption | refine Blk.drew ?_ | refine Blk.drewN ?_ _ | apply Blk.set | (refine Blk.new ?_; focus (first | rfl | (simp; done))) | refine Blk.alloc ?_ _ | refine Blk.other ?_ ?_ _) | exact eqL rfl | (refine neB ?_; omega)))
    have cb := Bb.cell
    have fb := Bb.free
    have lb_W1 := Bb.lt
    have cz := Bz.cell
    have fz := Bz.free
    have lz_W1 := Bz.lt
    have kaW1 : Acc w W1 := by
      refine Acc.call ?_ hb
      (repeat' (first | (with_reducible first | assumption | exact Acc.refl _ | refine Acc.drew ?_ | refine Acc.drewN ?_ _ | refine Acc.alloc ?_ _ | refine Acc.setCell ?_ ?_ _) | (refine leB ?_; omega)))
    clear hb
    go_wp2_with fail
    refine (D.out _).mono ?_
    rintro e W2 ⟨⟨s, rfl⟩, hb⟩
    obtain ⟨Bb, Bz⟩ : Blk W2 (b) [.int .i64 a1, .int .i64 a2, .int .i64 a3, .int .i64 b1, .int .i64 b2, .int .i64 b3, .int .i64 c1, .int .i64 c2, .int .i64 c3, .int .i64 d1, .int .i64 d2, .int .i64 d3] ∧ Blk W2 (w.heap.size) [.int .i64 0, .int .i64 0, .int .i64 0] := by
      refine ⟨?_, ?_⟩ <;> refine Blk.keep hb ?_ <;> (repeat' (first | (with_reducible first | assumption | refine Blk.drew ?_ | refine Blk.drewN ?_ _ | apply Blk.set | (refine Blk.new ?_; focus (first | rfl | (simp; done))) | refine Blk.alloc ?_ _ | refine Blk.other ?_ ?_ _) | exact eqL rfl | (refine neB ?_; omega)))
    have cb := Bb.cell
    have fb := Bb.free
    have lb_W2 := Bb.lt
    have cz := Bz.cell
    have fz := Bz.free
    have lz_W2 := Bz.lt
    have kaW2 : Acc w W2 := by
      refine Acc.call ?_ hb
      (repeat' (first | (with_reducible first | assumption | exact Acc.refl _ | refine Acc.drew ?_ | refine Acc.drewN ?_ _ | refine Acc.alloc ?_ _ | refine Acc.setCell ?_ ?_ _) | (refine leB ?_; omega)))
    clear hb
    go_wp2_with fail
    skip
    refine bodyPost_ret (v := .tuple #[.agg #[.int .i64 0, .int .i64 0, .int .i64 0], .iface 142 (.agg #[.string s])]) (by simp [results, Tryz.results154, go_sem, *]) rfl ⟨fun _ _ _ h => (by cases h), fun _ => ⟨_, rfl⟩, ?_⟩
    show Acc w _
    (repeat' (first | (with_reducible first | assumption | exact Acc.refl _ | refine Acc.drew ?_ | refine Acc.drewN ?_ _ | refine Acc.alloc ?_ _ | refine Acc.setCell ?_ ?_ _) | (refine leB ?_; omega)))
  | some v =>
    obtain ⟨p, q, r⟩ := v
    have D := Lib.hid fun w => (mirror_any a1 a2 a3 w ha1 ha2 ha3).mono fun e w' h => And.intro (h.1 _ _ _ ho) h.2.2
    clear ho
    have ew0 : IntKind.i64.wrap 0 = 0 := by decide
    have ew1 : IntKind.i64.wrap 1 = 1 := by decide
    have ix0 := idxVec_0
    have ix1 := idxVec_1
    go_enter Tryz.func154, Tryz.ntmps154
    go_wp2_with fail
    refine (mrow_0 a1 a2 a3 b1 b2 b3 c1 c2 c3 d1 d2 d3 _).mono ?_
    rintro e W1 ⟨rfl, hb⟩
    obtain ⟨Bb, Bz⟩ : Blk W1 (b) [.int .i64 a1, .int .i64 a2, .int .i64 a3, .int .i64 b1, .int .i64 b2, .int .i64 b3, .int .i64 c1, .int .i64 c2, .int .i64 c3, .int .i64 d1, .int .i64 d2, .int .i64 d3] ∧ Blk W1 (w.heap.size) [.int .i64 0, .int .i64 0, .int .i64 0] := by
      refine ⟨?_, ?_⟩ <;> refine Blk.keep hb ?_ <;> (repeat' (first | (with_reducible first | assumption | refine Blk.drew ?_ | refine Blk.drewN ?_ _ | apply Blk.set | (refine Blk.new ?_; focus (first | rfl | (simp; done))) | refine Blk.alloc ?_ _ | refine Blk.other ?_ ?_ _) | exact eqL rfl | (refine neB ?_; omega)))
    have cb := Bb.cell
    have fb := Bb.free
    have lb_W1 := Bb.lt
    have cz := Bz.cell
    have fz := Bz.free
    have lz_W1 := Bz.lt
    have kaW1 : Acc w W1 := by
      refine Acc.call ?_ hb
      (repeat' (first | (with_reducible first | assumption | exact Acc.refl _ | refine Acc.drew ?_ | refine Acc.drewN ?_ _ | refine Acc.alloc ?_ _ | refine Acc.setCell ?_ ?_ _) | (refine leB ?_; omega)))
    clear hb
    go_wp2_with fail
    refine (D.out _).mono ?_
    rintro e W2 ⟨rfl, hb⟩
    obtain ⟨Bb, Bz⟩ : Blk W2 (b) [.int .i64 a1, .int .i64 a2, .int .i64 a3, .int .i64 b1, .int .i64 b2, .int .i64 b3, .int .i64 c1, .int .i64 c2, .int .i64 c3, .int .i64 d1, .int .i64 d2, .int .i64 d3] ∧ Blk W2 (w.heap.size) [.int .i64 0, .int .i64 0, .int .i64 0] := by
      refine ⟨?_, ?_⟩ <;> refine Blk.keep hb ?_ <;> (repeat' (first | (with_reducible first | assumption | refine Blk.drew ?_ | refine Blk.drewN ?_ _ | apply Blk.set | (refine Blk.new ?_; focus (first | rfl | (simp; done))) | refine Blk.alloc ?_ _ | refine Blk.other ?_ ?_ _) | exact eqL rfl | (refine neB ?_; omega)))
    have cb := Bb.cell
    have fb := Bb.free
    have lb_W2 := Bb.lt
    have cz := Bz.cell
    have fz := Bz.free
    have lz_W2 := Bz.lt
    have kaW2 : Acc w W2 := by
      refine Acc.call ?_ hb
      (repeat' (first | (with_reducible first | assumption | exact Acc.refl _ | refine Acc.drew ?_ | refine Acc.drewN ?_ _ | refine Acc.alloc ?_ _ | refine Acc.setCell ?_ ?_ _) | (refine leB ?_; omega)))
    clear hb
    go_wp2_with fail
    skip
    refine bodyPost_ret (v := .tuple #[.agg #[.int .i64 p, .int .i64 q, .int .i64 r], .nilIface]) (by simp [results, Tryz.results154, go_sem, *]) rfl ⟨fun _ _ _ h => (by cases h; rfl), fun h => (by cases h), ?_⟩
    show Acc w _
    (repeat' (first | (with_reducible first | assumption | exact Acc.refl _ | refine Acc.drew ?_ | refine Acc.drewN ?_ _ | refine Acc.alloc ?_ _ | refine Acc.setCell ?_ ?_ _) | (refine leB ?_; omega)))
set_option maxHeartbeats 4000000 in
theorem madjClo_01 (b : Nat) (a1 a2 a3 b1 b2 b3 c1 c2 c3 d1 d2 d3 : Int) (ha1 : i64B a1) (ha2 : i64B a2) (ha3 : i64B a3) (hb1 : i64B b1) (hb2 : i64B b2) (hb3 : i64B b3) (hc1 : i64B c1) (hc2 : i64B c2) (hc3 : i64B c3) (hd1 : i64B d1) (hd2 : i64B d2) (hd3 : i64B d3) (w : World) (Bb : Blk w b [.int .i64 a1, .int .i64 a2, .int .i64 a3, .int .i64 b1, .int .i64 b2, .int .i64 b3, .int .i64 c1, .int .i64 c2, .int .i64 c3, .int .i64 d1, .int .i64 d2, .int .i64 d3]) :
    Calls Tryz.prog 154 #[.int .i64 0, .int .i64 1, .pointer (some ⟨b, 0, none⟩)] w (Erred (mirrorF c1 c2 c3) w) := by
  have cb := Bb.cell
  have fb := Bb.free
  have lb_w := Bb.lt
  cases ho : mirrorF c1 c2 c3 with
  | none =>
    have D := Lib.hid fun w => (mirror_any c1 c2 c3 w hc1 hc2 hc3).mono fun e w' h => And.intro (h.2.1 ho) h.2.2
    clear ho
    have ew0 : IntKind.i64.wrap 0 = 0 := by decide
    have ew1 : IntKind.i64.wrap 1 = 1 := by decide
    have ix0 := idxVec_0
    have ix1 := idxVec_1
    go_enter Tryz.func154, Tryz.ntmps154
    go_wp2_with fail
    refine (mrow_1 a1 a2 a3 b1 b2 b3 c1 c2 c3 d1 d2 d3 _).mono ?_
    rintro e W1 ⟨rfl, hb⟩
    obtain ⟨Bb, Bz⟩ : Blk W1 (b) [.int .i64 a1, .int .i64 a2, .int .i64 a3, .int .i64 b1, .int .i64 b2, .int .i64 b3, .int .i64 c1, .int .i64 c2, .int .i64 c3, .int .i64 d1, .int .i64 d2, .int .i64 d3] ∧ Blk W1 (w.heap.size) [.int .i64 0, .int .i64 0, .int .i64 0] := by
      refine ⟨?_, ?_⟩ <;> refine Blk.keep hb ?_ <;> (repeat' (first | (with_reducible first | assumption | refine Blk.drew ?_ | refine Blk.drewN ?_ _ | apply Blk.set | (refine Blk.new ?_; focus (first | rfl | (simp; done))) | refine Blk.alloc ?_ _ | refine Blk.other ?_ ?_ _) | exact eqL rfl | (refine neB ?_; omega)))
    have cb := Bb.cell
    have fb := Bb.free
    have lb_W1 := Bb.lt
    have cz := Bz.cell
    have fz := Bz.free
    have lz_W1 := Bz.lt
    have kaW1 : Acc w W1 := by
      refine Acc.call ?_ hb
      (repeat' (first | (with_reducible first | assumption | exact Acc.refl _ | refine Acc.drew ?_ | refine Acc.drewN ?_ _ | refine Acc.alloc ?_ _ | refine Acc.setCell ?_ ?_ _) | (refine leB ?_; omega)))
    clear hb
    go_wp2_with fail
    refine (D.out _).mono ?_
    rintro e W2 ⟨⟨s, rfl⟩, hb⟩
    obtain ⟨Bb, Bz⟩ : Blk W2 (b) [.int .i64 a1, .int .i64 a2, .int .i64 a3, .int .i64 b1, .int .i64 b2, .int .i64 b3, .int .i64 c1, .int .i64 c2, .int .i64 c3, .int .i64 d1, .int .i64 d2, .int .i64 d3] ∧ Blk W2 (w.heap.size) [.int .i64 0, .int .i64 0, .int .i64 0] := by
      refine ⟨?_, ?_⟩ <;> refine Blk.keep hb ?_ <;> (repeat' (first | (with_reducible first | assumption | refine Blk.drew ?_ | refine Blk.drewN ?_ _ | apply Blk.set | (refine Blk.new ?_; focus (first | rfl | (simp; done))) | refine Blk.alloc ?_ _ | refine Blk.other ?_ ?_ _) | exact eqL rfl | (refine neB ?_; omega)))
    have cb := Bb.cell
    have fb := Bb.free
    have lb_W2 := Bb.lt
    have cz := Bz.cell
    have fz := Bz.free
    have lz_W2 := Bz.lt
    have kaW2 : Acc w W2 := by
      refine Acc.call ?_ hb
      (repeat' (first | (with_reducible first | assumption | exact Acc.refl _ | refine Acc.drew ?_ | refine Acc.drewN ?_ _ | refine Acc.alloc ?_ _ | refine Acc.setCell ?_ ?_ _) | (refine leB ?_; omega)))
    clear hb
    go_wp2_with fail
    skip
    refine bodyPost_ret (v := .tuple #[.agg #[.int .i64 0, .int .i64 0, .int .i64 0], .iface 142 (.agg #[.string s])]) (by simp [results, Tryz.results154, go_sem, *]) rfl ⟨fun _ _ _ h => (by cases h), fun _ => ⟨_, rfl⟩, ?_⟩
    show Acc w _
    (repeat' (first | (with_reducible first | assumption | exact Acc.refl _ | refine Acc.drew ?_ | refine Acc.drewN ?_ _ | refine Acc.alloc ?_ _ | refine Acc.setCell ?_ ?_ _) | (refine leB ?_; omega)))
  | some v =>
    obtain ⟨p, q, r⟩ := v
    have D := Lib.hid fun w => (mirror_any c1 c2 c3 w hc1 hc2 hc3).mono fun e w' h => And.intro (h.1 _ _ _ ho) h.2.2
    clear ho
    have ew0 : IntKind.i64.wrap 0 = 0 := by decide
    have ew1 : IntKind.i64.wrap 1 = 1 := by decide
    have ix0 := idxVec_0
    have ix1 := idxVec_1
    go_enter Tryz.func154, Tryz.ntmps154
    go_wp2_with fail
    refine (mrow_1 a1 a2 a3 b1 b2 b3 c1 c2 c3 d1 d2 d3 _).mono ?_
    rintro e W1 ⟨rfl, hb⟩
    obtain ⟨Bb, Bz⟩ : Blk W1 (b) [.int .i64 a1, .int .i64 a2, .int .i64 a3, .int .i64 b1, .int .i64 b2, .int .i64 b3, .int .i64 c1, .int .i64 c2, .int .i64 c3, .int .i64 d1, .int .i64 d2, .int .i64 d3] ∧ Blk W1 (w.heap.size) [.int .i64 0, .int .i64 0, .int .i64 0] := by
      refine ⟨?_, ?_⟩ <;> refine Blk.keep hb ?_ <;> (repeat' (first | (with_reducible first | assumption | refine Blk.drew ?_ | refine Blk.drewN ?_ _ | apply Blk.set | (refine Blk.new ?_; focus (first | rfl | (simp; done))) | refine Blk.alloc ?_ _ | refine Blk.other ?_ ?_ _) | exact eqL rfl | (refine neB ?_; omega)))
    have cb := Bb.cell
    have fb := Bb.free
    have lb_W1 := Bb.lt
    have cz := Bz.cell
    have fz := Bz.free
    have lz_W1 := Bz.lt
    have kaW1 : Acc w W1 := by
      refine Acc.call ?_ hb
      (repeat' (first | (with_reducible first | assumption | exact Acc.refl _ | refine Acc.drew ?_ | refine Acc.drewN ?_ _ | refine Acc.alloc ?_ _ | refine Acc.setCell ?_ ?_ _) | (refine leB ?_; omega)))
    clear hb
    go_wp2_with fail
    refine (D.out _).mono ?_
    rintro e W2 ⟨rfl, hb⟩
    obtain ⟨Bb, Bz⟩ : Blk W2 (b) [.int .i64 a1, .int .i64 a2, .int .i64 a3, .int .i64 b1, .int .i64 b2, .int .i64 b3, .int .i64 c1, .int .i64 c2, .int .i64 c3, .int .i64 d1, .int .i64 d2, .int .i64 d3] ∧ Blk W2 (w.heap.size) [.int .i64 0, .int .i64 0, .int .i64 0] := by
      refine ⟨?_, ?_⟩ <;> refine Blk.keep hb ?_ <;> (repeat' (first | (with_reducible first | assumption | refine Blk.drew ?_ | refine Blk.drewN ?_ _ | apply Blk.set | (refine Blk.new ?_; focus (first | rfl | (simp; done))) | refine Blk.alloc ?_ _ | refine Blk.other ?_ ?_ _) | exact eqL rfl | (refine neB ?_; omega)))
    have cb := Bb.cell
    have fb := Bb.free
    have lb_W2 := Bb.lt
    have cz := Bz.cell
    have fz := Bz.free
    have lz_W2 := Bz.lt
    have kaW2 : Acc w W2 := by
      refine Acc.call ?_ hb
      (repeat' (first | (with_reducible first | assumption | exact Acc.refl _ | refine Acc.drew ?_ | refine Acc.drewN ?_ _ | refine Acc.alloc ?_ _ | refine Acc.setCell ?_ ?_ _) | (refine leB ?_; omega)))
    clear hb
    go_wp2_with fail
    skip
    refine bodyPost_ret (v := .tuple #[.agg #[.int .i64 p, .int .i64 q, .int .i64 r], .nilIface]) (by simp [results, Tryz.results154, go_sem, *]) rfl ⟨fun _ _ _ h => (by cases h; rfl), fun h => (by cases h), ?_⟩
    show Acc w _
    (repeat' (first | (with_reducible first | assumption | exact Acc.refl _ | refine Acc.drew ?_ | refine Acc.drewN ?_ _ | refine Acc.alloc ?_ _ | refine Acc.setCell ?_ ?_ _) | (refine leB ?_; omega)))
set_option maxHeartbeats 4000000 in
theorem madjClo_10 (b : Nat) (a1 a2 a3 b1 b2 b3 c1 c2 c3 d1 d2 d3 : Int) (ha1 : i64B a1) (ha2 : i64B a2) (ha3 : i64B a3) (hb1 : i64B b1) (hb2 : i64B b2) (hb3 : i64B b3) (hc1 : i64B c1) (hc2 : i64B c2) (hc3 : i64B c3) (hd1 : i64B d1) (hd2 : i64B d2) (hd3 : i64B d3) (w : World) (Bb : Blk w b [.int .i64 a1, .int .i64 a2, .int .i64 a3, .int .i64 b1, .int .i64 b2, .int .i64 b3, .int .i64 c1, .int .i64 c2, .int .i64 c3, .int .i64 d1, .int .i64 d2, .int .i64 d3]) :
    Calls Tryz.prog 154 #[.int .i64 1, .int .i64 0, .pointer (some ⟨b, 0, none⟩)] w (Erred (mirrorF b1 b2 b3) w) := by
  have cb := Bb.cell
  have fb := Bb.free
  have lb_w := Bb.lt
  cases ho : mirrorF b1 b2 b3 with
  | none =>
    have D := Lib.hid fun w => (mirror_any b1 b2 b3 w hb1 hb2 hb3).mono fun e w' h => And.intro (h.2.1 ho) h.2.2
    clear ho
    have ew0 : IntKind.i64.wrap 0 = 0 := by decide
    have ew1 : IntKind.i64.wrap 1 = 1 := by decide
    have ix0 := idxVec_0
    have ix1 := idxVec_1
    go_enter Tryz.func154, Tryz.ntmps154
    go_wp2_with fail
    refine (mrow_0 a1 a2 a3 b1 b2 b3 c1 c2 c3 d1 d2 d3 _).mono ?_
    rintro e W1 ⟨rfl, hb⟩
    obtain ⟨Bb, Bz⟩ : Blk W1 (b) [.int .i64 a1, .int .i64 a2, .int .i64 a3, .int .i64 b1, .int .i64 b2, .int .i64 b3, .int .i64 c1, .int .i64 c2, .int .i64 c3, .int .i64 d1, .int .i64 d2, .int .i64 d3] ∧ Blk W1 (w.heap.size) [.int .i64 0, .int .i64 0, .int .i64 0] := by
      refine ⟨?_, ?_⟩ <;> refine Blk.keep hb ?_ <;> (repeat' (first | (with_reducible first | assumption | refine Blk.drew ?_ | refine Blk.drewN ?_ _ | apply Blk.set | (refine Blk.new ?_; focus (first | rfl | (simp; done))) | refine Blk.alloc ?_ _ | refine Blk.other ?_ ?_ _) | exact eqL rfl | (refine neB ?_; omega)))
    have cb := Bb.cell
    have fb := Bb.free
    have lb_W1 := Bb.lt
    have cz := Bz.cell
    have fz := Bz.free
    have lz_W1 := Bz.lt
    have kaW1 : Acc w W1 := by
      refine Acc.call ?_ hb
      (repeat' (first | (with_reducible first | assumption | exact Acc.refl _ | refine Acc.drew ?_ | refine Acc.drewN ?_ _ | refine Acc.alloc ?_ _ | refine Acc.setCell ?_ ?_ _) | (refine leB ?_; omega)))
    clear hb
    go_wp2_with fail
    refine (D.out _).mono ?_
    rintro e W2 ⟨⟨s, rfl⟩, hb⟩
    obtain ⟨Bb, Bz⟩ : Blk W2 (b) [.int .i64 a1, .int .i64 a2, .int .i64 a3, .int .i64 b1, .int .i64 b2, .int .i64 b3, .int .i64 c1, .int .i64 c2, .int .i64 c3, .int .i64 d1, .int .i64 d2, .int .i64 d3] ∧ Blk W2 (w.heap.size) [.int .i64 0, .int .i64 0, .int .i64 0] := by
      refine ⟨?_, ?_⟩ <;> refine Blk.keep hb ?_ <;> (repeat' (first | (with_reducible first | assumption | refine Blk.drew ?_ | refine Blk.drewN ?_ _ | apply Blk.set | (refine Blk.new ?_; focus (first | rfl | (simp; done))) | refine Blk.alloc ?_ _ | refine Blk.other ?_ ?_ _) | exact eqL rfl | (refine neB ?_; omega)))
    have cb := Bb.cell
    have fb := Bb.free
    have lb_W2 := Bb.lt
    have cz := Bz.cell
    have fz := Bz.free
    have lz_W2 := Bz.lt
    have kaW2 : Acc w W2 := by
      refine Acc.call ?_ hb
      (repeat' (first | (with_reducible first | assumption | exact Acc.refl _ | refine Acc.drew ?_ | refine Acc.drewN ?_ _ | refine Acc.alloc ?_ _ | refine Acc.setCell ?_ ?_ _) | (refine leB ?_; omega)))
    clear hb
    go_wp2_with fail
    skip
    refine bodyPost_ret (v := .tuple #[.agg #[.int .i64 0, .int .i64 0, .int .i64 0], .iface 142 (.agg #[.string s])]) (by simp [results, Tryz.results154, go_sem, *]) rfl ⟨fun _ _ _ h => (by cases h), fun _ => ⟨_, rfl⟩, ?_⟩
    show Acc w _
    (repeat' (first | (with_reducible first | assumption | exact Acc.refl _ | refine Acc.drew ?_ | refine Acc.drewN ?_ _ | refine Acc.alloc ?_ _ | refine Acc.setCell ?_ ?_ _) | (refine leB ?_; omega)))
  | some v =>
    obtain ⟨p, q, r⟩ := v
    have D := Lib.hid fun w => (mirror_any b1 b2 b3 w hb1 hb2 hb3).mono fun e w' h => And.intro (h.1 _ _ _ ho) h.2.2
    clear ho
    have ew0 : IntKind.i64.wrap 0 = 0 := by decide
    have ew1 : IntKind.i64.wrap 1 = 1 := by decide
    have ix0 := idxVec_0
    have ix1 := idxVec_1
    go_enter Tryz.func154, Tryz.ntmps154
    go_wp2_with fail
    refine (mrow_0 a1 a2 a3 b1 b2 b3 c1 c2 c3 d1 d2 d3 _).mono ?_
    rintro e W1 ⟨rfl, hb⟩
    obtain ⟨Bb, Bz⟩ : Blk W1 (b) [.int .i64 a1, .int .i64 a2, .int .i64 a3, .int .i64 b1, .int .i64 b2, .int .i64 b3, .int .i64 c1, .int .i64 c2, .int .i64 c3, .int .i64 d1, .int .i64 d2, .int .i64 d3] ∧ Blk W1 (w.heap.size) [.int .i64 0, .int .i64 0, .int .i64 0] := by
      refine ⟨?_, ?_⟩ <;> refine Blk.keep hb ?_ <;> (repeat' (first | (with_reducible first | assumption | refine Blk.drew ?_ | refine Blk.drewN ?_ _ | apply Blk.set | (refine Blk.new ?_; focus (first | rfl | (simp; done))) | refine Blk.alloc ?_ _ | refine Blk.other ?_ ?_ _) | exact eqL rfl | (refine neB ?_; omega)))
    have cb := Bb.cell
    have fb := Bb.free
    have lb_W1 := Bb.lt
    have cz := Bz.cell
    have fz := Bz.free
    have lz_W1 := Bz.lt
    have kaW1 : Acc w W1 := by
      refine Acc.call ?_ hb
      (repeat' (first | (with_reducible first | assumption | exact Acc.refl _ | refine Acc.drew ?_ | refine Acc.drewN ?_ _ | refine Acc.alloc ?_ _ | refine Acc.setCell ?_ ?_ _) | (refine leB ?_; omega)))
    clear hb
    go_wp2_with fail
    refine (D.out _).mono ?_
    rintro e W2 ⟨rfl, hb⟩
    obtain ⟨Bb, Bz⟩ : Blk W2 (b) [.int .i64 a1, .int .i64 a2, .int .i64 a3, .int .i64 b1, .int .i64 b2, .int .i64 b3, .int .i64 c1, .int .i64 c2, .int .i64 c3, .int .i64 d1, .int .i64 d2, .int .i64 d3] ∧ Blk W2 (w.heap.size) [.int .i64 0, .int .i64 0, .int .i64 0] := by
      refine ⟨?_, ?_⟩ <;> refine Blk.keep hb ?_ <;> (repeat' (first | (with_reducible first | assumption | refine Blk.drew ?_ | refine Blk.drewN ?_ _ | apply Blk.set | (refine Blk.new ?_; focus (first | rfl | (simp; done))) | refine Blk.alloc ?_ _ | refine Blk.other ?_ ?_ _) | exact eqL rfl | (refine neB ?_; omega)))
    have cb := Bb.cell
    have fb := Bb.free
    have lb_W2 := Bb.lt
    have cz := Bz.cell
    have fz := Bz.free
    have lz_W2 := Bz.lt
    have kaW2 : Acc w W2 := by
      refine Acc.call ?_ hb
      (repeat' (first | (with_reducible first | assumption | exact Acc.refl _ | refine Acc.drew ?_ | refine Acc.drewN ?_ _ | refine Acc.alloc ?_ _ | refine Acc.setCell ?_ ?_ _) | (refine leB ?_; omega)))
    clear hb
    go_wp2_with fail
    skip
    refine bodyPost_ret (v := .tuple #[.agg #[.int .i64 p, .int .i64 q, .int .i64 r], .nilIface]) (by simp [results, Tryz.results154, go_sem, *]) rfl ⟨fun _ _ _ h => (by cases h; rfl), fun h => (by cases h), ?_⟩
    show Acc w _
    (repeat' (first | (with_reducible first | assumption | exact Acc.refl _ | refine Acc.drew ?_ | refine Acc.drewN ?_ _ | refine Acc.alloc ?_ _ | refine Acc.setCell ?_ ?_ _) | (refine leB ?_; omega)))
set_option maxHeartbeats 4000000 in
theorem madjClo_11 (b : Nat) (a1 a2 a3 b1 b2 b3 c1 c2 c3 d1 d2 d3 : Int) (ha1 : i64B a1) (ha2 : i64B a2) (ha3 : i64B a3) (hb1 : i64B b1) (hb2 : i64B b2) (hb3 : i64B b3) (hc1 : i64B c1) (hc2 : i64B c2) (hc3 : i64B c3) (hd1 : i64B d1) (hd2 : i64B d2) (hd3 : i64B d3) (w : World) (Bb : Blk w b [.int .i64 a1, .int .i64 a2, .int .i64 a3, .int .i64 b1, .int .i64 b2, .int .i64 b3, .int .i64 c1, .int .i64 c2, .int .i64 c3, .int .i64 d1, .int .i64 d2, .int .i64 d3]) :
    Calls Tryz.prog 154 #[.int .i64 1, .int .i64 1, .pointer (some ⟨b, 0, none⟩)] w (Erred (mirrorF d1 d2 d3) w) := by
  have cb := Bb.cell
  have fb := Bb.free
  have lb_w := Bb.lt
  cases ho : mirrorF d1 d2 d3 with
  | none =>
    have D := Lib.hid fun w => (mirror_any d1 d2 d3 w hd1 hd2 hd3).mono fun e w' h => And.intro (h.2.1 ho) h.2.2
    clear ho
    have ew0 : IntKind.i64.wrap 0 = 0 := by decide
    have ew1 : IntKind.i64.wrap 1 = 1 := by decide
    have ix0 := idxVec_0
    have ix1 := idxVec_1
    go_enter Tryz.func154, Tryz.ntmps154
    go_wp2_with fail
    refine (mrow_1 a1 a2 a3 b1 b2 b3 c1 c2 c3 d1 d2 d3 _).mono ?_
    rintro e W1 ⟨rfl, hb⟩
    obtain ⟨Bb, Bz⟩ : Blk W1 (b) [.int .i64 a1, .int .i64 a2, .int .i64 a3, .int .i64 b1, .int .i64 b2, .int .i64 b3, .int .i64 c1, .int .i64 c2, .int .i64 c3, .int .i64 d1, .int .i64 d2, .int .i64 d3] ∧ Blk W1 (w.heap.size) [.int .i64 0, .int .i64 0, .int .i64 0] := by
      refine ⟨?_, ?_⟩ <;> refine Blk.keep hb ?_ <;> (repeat' (first | (with_reducible first | assumption | refine Blk.drew ?_ | refine Blk.drewN ?_ _ | apply Blk.set | (refine Blk.new ?_; focus (first | rfl | (simp; done))) | refine Blk.alloc ?_ _ | refine Blk.other ?_ ?_ _) | exact eqL rfl | (refine neB ?_; omega)))
    have cb := Bb.cell
    have fb := Bb.free
    have lb_W1 := Bb.lt
    have cz := Bz.cell
    have fz := Bz.free
    have lz_W1 := Bz.lt
    have kaW1 : Acc w W1 := by
      refine Acc.call ?_ hb
      (repeat' (first | (with_reducible first | assumption | exact Acc.refl _ | refine Acc.drew ?_ | refine Acc.drewN ?_ _ | refine Acc.alloc ?_ _ | refine Acc.setCell ?_ ?_ _) | (refine leB ?_; omega)))
    clear hb
    go_wp2_with fail
    refine (D.out _).mono ?_
    rintro e W2 ⟨⟨s, rfl⟩, hb⟩
    obtain ⟨Bb, Bz⟩ : Blk W2 (b) [.int .i64 a1, .int .i64 a2, .int .i64 a3, .int .i64 b1, .int .i64 b2, .int .i64 b3, .int .i64 c1, .int .i64 c2, .int .i64 c3, .int .i64 d1, .int .i64 d2, .int .i64 d3] ∧ Blk W2 (w.heap.size) [.int .i64 0, .int .i64 0, .int .i64 0] := by
      refine ⟨?_, ?_⟩ <;> refine Blk.keep hb ?_ <;> (repeat' (first | (with_reducible first | assumption | refine Blk.drew ?_ | refine Blk.drewN ?_ _ | apply Blk.set | (refine Blk.new ?_; focus (first | rfl | (simp; done))) | refine Blk.alloc ?_ _ | refine Blk.other ?_ ?_ _) | exact eqL rfl | (refine neB ?_; omega)))
    have cb := Bb.cell
    have fb := Bb.free
    have lb_W2 := Bb.lt
    have cz := Bz.cell
    have fz := Bz.free
    have lz_W2 := Bz.lt
    have kaW2 : Acc w W2 := by
      refine Acc.call ?_ hb
      (repeat' (first | (with_reducible first | assumption | exact Acc.refl _ | refine Acc.drew ?_ | refine Acc.drewN ?_ _ | refine Acc.alloc ?_ _ | refine Acc.setCell ?_ ?_ _) | (refine leB ?_; omega)))
    clear hb
    go_wp2_with fail
    skip
    refine bodyPost_ret (v := .tuple #[.agg #[.int .i64 0, .int .i64 0, .int .i64 0], .iface 142 (.agg #[.string s])]) (by simp [results, Tryz.results154, go_sem, *]) rfl ⟨fun _ _ _ h => (by cases h), fun _ => ⟨_, rfl⟩, ?_⟩
    show Acc w _
    (repeat' (first | (with_reducible first | assumption | exact Acc.refl _ | refine Acc.drew ?_ | refine Acc.drewN ?_ _ | refine Acc.alloc ?_ _ | refine Acc.setCell ?_ ?_ _) | (refine leB ?_; omega)))
  | some v =>
    obtain ⟨p, q, r⟩ := v
    have D := Lib.hid fun w => (mirror_any d1 d2 d3 w hd1 hd2 hd3).mono fun e w' h => And.intro (h.1 _ _ _ ho) h.2.2
    clear ho
    have ew0 : IntKind.i64.wrap 0 = 0 := by decide
    have ew1 : IntKind.i64.wrap 1 = 1 := by decide
    have ix0 := idxVec_0
    have ix1 := idxVec_1
    go_enter Tryz.func154, Tryz.ntmps154
    go_wp2_with fail
    refine (mrow_1 a1 a2 a3 b1 b2 b3 c1 c2 c3 d1 d2 d3 _).mono ?_
    rintro e W1 ⟨rfl, hb⟩
    obtain ⟨Bb, Bz⟩ : Blk W1 (b) [.int .i64 a1, .int .i64 a2, .int .i64 a3, .int .i64 b1, .int .i64 b2, .int .i64 b3, .int .i64 c1, .int .i64 c2, .int .i64 c3, .int .i64 d1, .int .i64 d2, .int .i64 d3] ∧ Blk W1 (w.heap.size) [.int .i64 0, .int .i64 0, .int .i64 0] := by
      refine ⟨?_, ?_⟩ <;> refine Blk.keep hb ?_ <;> (repeat' (first | (with_reducible first | assumption | refine Blk.drew ?_ | refine Blk.drewN ?_ _ | apply Blk.set | (refine Blk.new ?_; focus (first | rfl | (simp; done))) | refine Blk.alloc ?_ _ | refine Blk.other ?_ ?_ _) | exact eqL rfl | (refine neB ?_; omega)))
    have cb := Bb.cell
    have fb := Bb.free
    have lb_W1 := Bb.lt
    have cz := Bz.cell
    have fz := Bz.free
    have lz_W1 := Bz.lt
    have kaW1 : Acc w W1 := by
      refine Acc.call ?_ hb
      (repeat' (first | (with_reducible first | assumption | exact Acc.refl _ | refine Acc.drew ?_ | refine Acc.drewN ?_ _ | refine Acc.alloc ?_ _ | refine Acc.setCell ?_ ?_ _) | (refine leB ?_; omega)))
    clear hb
    go_wp2_with fail
    refine (D.out _).mono ?_
    rintro e W2 ⟨rfl, hb⟩
    obtain ⟨Bb, Bz⟩ : Blk W2 (b) [.int .i64 a1, .int .i64 a2, .int .i64 a3, .int .i64 b1, .int .i64 b2, .int .i64 b3, .int .i64 c1, .int .i64 c2, .int .i64 c3, .int .i64 d1, .int .i64 d2, .int .i64 d3] ∧ Blk W2 (w.heap.size) [.int .i64 0, .int .i64 0, .int .i64 0] := by
      refine ⟨?_, ?_⟩ <;> refine Blk.keep hb ?_ <;> (repeat' (first | (with_reducible first | assumption | refine Blk.drew ?_ | refine Blk.drewN ?_ _ | apply Blk.set | (refine Blk.new ?_; focus (first | rfl | (simp; done))) | refine Blk.alloc ?_ _ | refine Blk.other ?_ ?_ _) | exact eqL rfl | (refine neB ?_; omega)))
    have cb := Bb.cell
    have fb := Bb.free
    have lb_W2 := Bb.lt
    have cz := Bz.cell
    have fz := Bz.free
    have lz_W2 := Bz.lt
    have kaW2 : Acc w W2 := by
      refine Acc.call ?_ hb
      (repeat' (first | (with_reducible first | assumption | exact Acc.refl _ | refine Acc.drew ?_ | refine Acc.drewN ?_ _ | refine Acc.alloc ?_ _ | refine Acc.setCell ?_ ?_ _) | (refine leB ?_; omega)))
    clear hb
    go_wp2_with fail
    skip
    refine bodyPost_ret (v := .tuple #[.agg #[.int .i64 p, .int .i64 q, .int .i64 r], .nilIface]) (by simp [results, Tryz.results154, go_sem, *]) rfl ⟨fun _ _ _ h => (by cases h; rfl), fun h => (by cases h), ?_⟩
    show Acc w _
    (repeat' (first | (with_reducible first | assumption | exact Acc.refl _ | refine Acc.drew ?_ | refine Acc.drewN ?_ _ | refine Acc.alloc ?_ _ | refine Acc.setCell ?_ ?_ _) | (refine leB ?_; omega)))
end Go.Proofs.YtkdkeacfifjjoabGreatDoor
