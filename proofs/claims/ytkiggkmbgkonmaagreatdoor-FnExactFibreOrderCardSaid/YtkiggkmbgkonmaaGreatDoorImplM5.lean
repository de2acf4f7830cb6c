/-
  The program's alike matrices.
-/
import Derived.Test.YtkiggkmbgkonmaaGreatDoorImplM5r
import Derived.Test.YtkiggkmbgkonmaaGreatDoorImplM1
import Derived.Test.YtkiggkmbgkonmaaGreatDoorEqMx
import Derived.Test.YtkiggkmbgkonmaaGreatDoorBVec
import Derived.Deep.RegionHeld3
import Derived.Deep.RegionWith
import Derived.Deep.QuietTactic
import Derived.BigQuiet
namespace Go.Proofs.YtkiggkmbgkonmaaGreatDoor
open Go.ChangeShapes Go.WideShapes Go.ChangeAt Go.RowKit
set_option linter.unusedVariables false

def zeroM : F4 := ((0, 0, 1), (0, 0, 1), (0, 0, 1), (0, 0, 1))
theorem okF_den1 {z : Int} (h : okF 0 0 z = true) : z = 1 := by
  have hg := okF_gcd h
  have hb := okF_bd h
  unfold gcd3 at hg
  simp only [Int.gcd_zero_right] at hg
  have hg2 : z.natAbs = 1 := by
    first
      | exact hg
      | (simpa using hg)
      | (simpa [Int.gcd] using hg)
  omega
theorem zero_dark {a1 a2 a3 b1 b2 b3 c1 c2 c3 d1 d2 d3 : Int} (h : okM ((a1, a2, a3), (b1, b2, b3), (c1, c2, c3), (d1, d2, d3)) = true) : eqM4 ((a1, a2, a3), (b1, b2, b3), (c1, c2, c3), (d1, d2, d3)) zeroM = darkM ((a1, a2, a3), (b1, b2, b3), (c1, c2, c3), (d1, d2, d3)) := by
  obtain ⟨g1, g2, g3, g4⟩ := okM_of h
  rw [Bool.eq_iff_iff, eqM4_true]
  unfold zeroM darkM
  simp only [Prod.mk.injEq, Bool.and_eq_true, beq_iff_eq]
  constructor
  · rintro ⟨⟨e1, e2, -⟩, ⟨e3, e4, -⟩, ⟨e5, e6, -⟩, e7, e8, -⟩
    exact ⟨⟨⟨⟨⟨⟨⟨e1, e2⟩, e3⟩, e4⟩, e5⟩, e6⟩, e7⟩, e8⟩
  · rintro ⟨⟨⟨⟨⟨⟨⟨rfl, rfl⟩, rfl⟩, rfl⟩, rfl⟩, rfl⟩, rfl⟩, rfl⟩
    exact ⟨⟨rfl, rfl, okF_den1 g1⟩, ⟨rfl, rfl, okF_den1 g2⟩, ⟨rfl, rfl, okF_den1 g3⟩, rfl, rfl, okF_den1 g4⟩
theorem foldO_told {s r : Bool} {o p : Option (Int × Int × Int)} {l : List (Option (Int × Int × Int) × Option (Int × Int × Int))} (h : foldO s ((o, p) :: l) = some r) : (∃ u, o = some u) ∧ (∃ v, p = some v) ∧ ∃ s', foldO s' l = some r := by
  cases o with
  | none => cases h
  | some u =>
    cases p with
    | none => cases h
    | some v => exact ⟨⟨u, rfl⟩, ⟨v, rfl⟩, _, h⟩
theorem tok {u1 u2 u3 v1 v2 v3 : Int} (h : ∃ u, timesF u1 u2 u3 v1 v2 v3 = some u) : okF u1 u2 u3 = true ∧ okF v1 v2 v3 = true := by
  obtain ⟨⟨p, q, r⟩, h⟩ := h
  exact ⟨(times_some h).1, (times_some h).2.1⟩
theorem fold_ok {a1 a2 a3 b1 b2 b3 c1 c2 c3 d1 d2 d3 i1 i2 i3 j1 j2 j3 k1 k2 k3 l1 l2 l3 : Int} {r : Bool} (h : foldO true [(timesF b1 b2 b3 i1 i2 i3, timesF a1 a2 a3 j1 j2 j3), (timesF c1 c2 c3 i1 i2 i3, timesF a1 a2 a3 k1 k2 k3), (timesF c1 c2 c3 j1 j2 j3, timesF b1 b2 b3 k1 k2 k3), (timesF d1 d2 d3 i1 i2 i3, timesF a1 a2 a3 l1 l2 l3), (timesF d1 d2 d3 j1 j2 j3, timesF b1 b2 b3 l1 l2 l3), (timesF d1 d2 d3 k1 k2 k3, timesF c1 c2 c3 l1 l2 l3)] = some r) : okM ((a1, a2, a3), (b1, b2, b3), (c1, c2, c3), (d1, d2, d3)) = true ∧ okM ((i1, i2, i3), (j1, j2, j3), (k1, k2, k3), (l1, l2, l3)) = true := by
  obtain ⟨h1, h2, s1, k⟩ := foldO_told h
  obtain ⟨h3, h4, s2, k⟩ := foldO_told k
  obtain ⟨-, -, s3, k⟩ := foldO_told k
  obtain ⟨h5, h6, -⟩ := foldO_told k
  exact ⟨okM_mk (tok h2).1 (tok h1).1 (tok h3).1 (tok h5).1, okM_mk (tok h1).2 (tok h2).2 (tok h4).2 (tok h6).2⟩
theorem alk_prog (a1 a2 a3 b1 b2 b3 c1 c2 c3 d1 d2 d3 i1 i2 i3 j1 j2 j3 k1 k2 k3 l1 l2 l3 : Int) : alkM ((a1, a2, a3), (b1, b2, b3), (c1, c2, c3), (d1, d2, d3)) ((i1, i2, i3), (j1, j2, j3), (k1, k2, k3), (l1, l2, l3)) = ((foldO true [(timesF b1 b2 b3 i1 i2 i3, timesF a1 a2 a3 j1 j2 j3), (timesF c1 c2 c3 i1 i2 i3, timesF a1 a2 a3 k1 k2 k3), (timesF c1 c2 c3 j1 j2 j3, timesF b1 b2 b3 k1 k2 k3), (timesF d1 d2 d3 i1 i2 i3, timesF a1 a2 a3 l1 l2 l3), (timesF d1 d2 d3 j1 j2 j3, timesF b1 b2 b3 l1 l2 l3), (timesF d1 d2 d3 k1 k2 k3, timesF c1 c2 c3 l1 l2 l3)]).map fun s => s && (eqM4 ((a1, a2, a3), (b1, b2, b3), (c1, c2, c3), (d1, d2, d3)) zeroM == eqM4 ((i1, i2, i3), (j1, j2, j3), (k1, k2, k3), (l1, l2, l3)) zeroM)).getD false := by
  unfold alkM
  rw [show (okM ((a1, a2, a3), (b1, b2, b3), (c1, c2, c3), (d1, d2, d3)) && okM ((i1, i2, i3), (j1, j2, j3), (k1, k2, k3), (l1, l2, l3)) && (darkM ((a1, a2, a3), (b1, b2, b3), (c1, c2, c3), (d1, d2, d3)) == darkM ((i1, i2, i3), (j1, j2, j3), (k1, k2, k3), (l1, l2, l3))) && crsM (b1, b2, b3) (a1, a2, a3) (j1, j2, j3) (i1, i2, i3) && crsM (c1, c2, c3) (a1, a2, a3) (k1, k2, k3) (i1, i2, i3) && crsM (c1, c2, c3) (b1, b2, b3) (k1, k2, k3) (j1, j2, j3) && crsM (d1, d2, d3) (a1, a2, a3) (l1, l2, l3) (i1, i2, i3) && crsM (d1, d2, d3) (b1, b2, b3) (l1, l2, l3) (j1, j2, j3) && crsM (d1, d2, d3) (c1, c2, c3) (l1, l2, l3) (k1, k2, k3)) = ((okM ((a1, a2, a3), (b1, b2, b3), (c1, c2, c3), (d1, d2, d3)) && okM ((i1, i2, i3), (j1, j2, j3), (k1, k2, k3), (l1, l2, l3)) && (darkM ((a1, a2, a3), (b1, b2, b3), (c1, c2, c3), (d1, d2, d3)) == darkM ((i1, i2, i3), (j1, j2, j3), (k1, k2, k3), (l1, l2, l3)))) && (foldO true [(timesF b1 b2 b3 i1 i2 i3, timesF a1 a2 a3 j1 j2 j3), (timesF c1 c2 c3 i1 i2 i3, timesF a1 a2 a3 k1 k2 k3), (timesF c1 c2 c3 j1 j2 j3, timesF b1 b2 b3 k1 k2 k3), (timesF d1 d2 d3 i1 i2 i3, timesF a1 a2 a3 l1 l2 l3), (timesF d1 d2 d3 j1 j2 j3, timesF b1 b2 b3 l1 l2 l3), (timesF d1 d2 d3 k1 k2 k3, timesF c1 c2 c3 l1 l2 l3)]).getD false) by
    simp only [foldO_getD _ _ _ _ (foldO_all _), foldO_nil, Option.getD_some, Bool.and_true, Bool.true_and, crsM, tT]
    simp only [Bool.and_assoc]]
  cases h : foldO true [(timesF b1 b2 b3 i1 i2 i3, timesF a1 a2 a3 j1 j2 j3), (timesF c1 c2 c3 i1 i2 i3, timesF a1 a2 a3 k1 k2 k3), (timesF c1 c2 c3 j1 j2 j3, timesF b1 b2 b3 k1 k2 k3), (timesF d1 d2 d3 i1 i2 i3, timesF a1 a2 a3 l1 l2 l3), (timesF d1 d2 d3 j1 j2 j3, timesF b1 b2 b3 l1 l2 l3), (timesF d1 d2 d3 k1 k2 k3, timesF c1 c2 c3 l1 l2 l3)] with
  | none => simp
  | some r =>
    obtain ⟨k1, k2⟩ := fold_ok h
    rw [zero_dark k1, zero_dark k2, k1, k2]
    simp [Bool.and_comm]
set_option maxHeartbeats 4000000 in
theorem mxisZero_any (a1 a2 a3 b1 b2 b3 c1 c2 c3 d1 d2 d3 : Int) (w : World) : Calls Tryz.prog 87 #[.agg #[.int .i64 a1, .int .i64 a2, .int .i64 a3, .int .i64 b1, .int .i64 b2, .int .i64 b3, .int .i64 c1, .int .i64 c2, .int .i64 c3, .int .i64 d1, .int .i64 d2, .int .i64 d3]] w fun e w' => e = .returned (.bool (eqM4 ((a1, a2, a3), (b1, b2, b3), (c1, c2, c3), (d1, d2, d3)) zeroM)) ∧ Below w.heap.size w w' := by
  obtain ⟨z, hz⟩ : ∃ z, eqM4 ((a1, a2, a3), (b1, b2, b3), (c1, c2, c3), (d1, d2, d3)) zeroM = z := ⟨_, rfl⟩
  have HZ := Lib.hid hz
  have q : ∀ w, (Op.equalIn 10000 59 (.agg #[.int .i64 a1, .int .i64 a2, .int .i64 a3, .int .i64 b1, .int .i64 b2, .int .i64 b3, .int .i64 c1, .int .i64 c2, .int .i64 c3, .int .i64 d1, .int .i64 d2, .int .i64 d3]) (.agg #[.int .i64 0, .int .i64 0, .int .i64 1, .int .i64 0, .int .i64 0, .int .i64 1, .int .i64 0, .int .i64 0, .int .i64 1, .int .i64 0, .int .i64 0, .int .i64 1])).run Tryz.prog w = .ok z w := fun w => (eqMx a1 a2 a3 b1 b2 b3 c1 c2 c3 d1 d2 d3 0 0 1 0 0 1 0 0 1 0 0 1 w).trans (by rw [← HZ.out]; rfl)
  rw [hz]
  clear hz
  go_enter Tryz.func87, Tryz.ntmps87
  go_upto_region 1 with fail
  go_region_held3 (fun w' => (∀ k, w'.cell? ⟨w.heap.size, k, none⟩ = [.int .i64 a1, .int .i64 a2, .int .i64 a3, .int .i64 b1, .int .i64 b2, .int .i64 b3, .int .i64 c1, .int .i64 c2, .int .i64 c3, .int .i64 d1, .int .i64 d2, .int .i64 d3][k]?))
    (((try dsimp only); (refine Blk.cell ?_ <;> (repeat' (first | (with_reducible first | assumption | refine Blk.drew ?_ | refine Blk.drewN ?_ _ | apply Blk.set | (refine Blk.new ?_; focus (first | rfl | (simp; done))) | refine Blk.alloc ?_ _ | refine Blk.other ?_ ?_ _) | exact eqL rfl | (refine neB ?_; omega))))))
    (first
      | (go_at_call 77; refine (diagonal_any 0 0 1 0 0 1 _).mono ?_; rintro e W7 ⟨rfl, hb⟩; have Ba : Blk W7 (w.heap.size) [.int .i64 a1, .int .i64 a2, .int .i64 a3, .int .i64 b1, .int .i64 b2, .int .i64 b3, .int .i64 c1, .int .i64 c2, .int .i64 c3, .int .i64 d1, .int .i64 d2, .int .i64 d3] := Blk.keep hb (by repeat' (first | (with_reducible first | assumption | refine Blk.drew ?_ | refine Blk.drewN ?_ _ | apply Blk.set | (refine Blk.new ?_; focus (first | rfl | (simp; done))) | refine Blk.alloc ?_ _ | refine Blk.other ?_ ?_ _) | exact eqL rfl | (refine neB ?_; omega))); have ca := Ba.cell; have fa := Ba.free; have la_W7 := Ba.lt; have kaW7 : Acc w W7 := (by refine Acc.call ?_ hb; (repeat' (first | (with_reducible first | assumption | exact Acc.refl _ | refine Acc.drew ?_ | refine Acc.drewN ?_ _ | refine Acc.alloc ?_ _ | refine Acc.setCell ?_ ?_ _) | (refine leB ?_; omega)))); clear hb))
  all_goals
    go_wp2_with fail
    go_ret
    refine ⟨rfl, ?_⟩
    show Acc w _
    (repeat' (first | (with_reducible first | assumption | exact Acc.refl _ | refine Acc.drew ?_ | refine Acc.drewN ?_ _ | refine Acc.alloc ?_ _ | refine Acc.setCell ?_ ?_ _) | (refine leB ?_; omega)))
set_option maxHeartbeats 8000000 in
theorem mxalike_any (a1 a2 a3 b1 b2 b3 c1 c2 c3 d1 d2 d3 i1 i2 i3 j1 j2 j3 k1 k2 k3 l1 l2 l3 : Int) (ha1 : i64B a1) (ha2 : i64B a2) (ha3 : i64B a3) (hb1 : i64B b1) (hb2 : i64B b2) (hb3 : i64B b3) (hc1 : i64B c1) (hc2 : i64B c2) (hc3 : i64B c3) (hd1 : i64B d1) (hd2 : i64B d2) (hd3 : i64B d3) (hi1 : i64B i1) (hi2 : i64B i2) (hi3 : i64B i3) (hj1 : i64B j1) (hj2 : i64B j2) (hj3 : i64B j3) (hk1 : i64B k1) (hk2 : i64B k2) (hk3 : i64B k3) (hl1 : i64B l1) (hl2 : i64B l2) (hl3 : i64B l3) (w : World) : Calls Tryz.prog 67 #[.agg #[.int .i64 a1, .int .i64 a2, .int .i64 a3, .int .i64 b1, .int .i64 b2, .int .i64 b3, .int .i64 c1, .int .i64 c2, .int .i64 c3, .int .i64 d1, .int .i64 d2, .int .i64 d3], .agg #[.int .i64 i1, .int .i64 i2, .int .i64 i3, .int .i64 j1, .int .i64 j2, .int .i64 j3, .int .i64 k1, .int .i64 k2, .int .i64 k3, .int .i64 l1, .int .i64 l2, .int .i64 l3]] w (ErredB ((foldO true [(timesF b1 b2 b3 i1 i2 i3, timesF a1 a2 a3 j1 j2 j3), (timesF c1 c2 c3 i1 i2 i3, timesF a1 a2 a3 k1 k2 k3), (timesF c1 c2 c3 j1 j2 j3, timesF b1 b2 b3 k1 k2 k3), (timesF d1 d2 d3 i1 i2 i3, timesF a1 a2 a3 l1 l2 l3), (timesF d1 d2 d3 j1 j2 j3, timesF b1 b2 b3 l1 l2 l3), (timesF d1 d2 d3 k1 k2 k3, timesF c1 c2 c3 l1 l2 l3)]).map fun s => s && (eqM4 ((a1, a2, a3), (b1, b2, b3), (c1, c2, c3), (d1, d2, d3)) zeroM == eqM4 ((i1, i2, i3), (j1, j2, j3), (k1, k2, k3), (l1, l2, l3)) zeroM)) w) := by
  have C := Lib.hid fun w => inRatio_any a1 a2 a3 b1 b2 b3 c1 c2 c3 d1 d2 d3 i1 i2 i3 j1 j2 j3 k1 k2 k3 l1 l2 l3 ha1 ha2 ha3 hb1 hb2 hb3 hc1 hc2 hc3 hd1 hd2 hd3 hi1 hi2 hi3 hj1 hj2 hj3 hk1 hk2 hk3 hl1 hl2 hl3 w
  have Z1 := Lib.hid fun w => mxisZero_any a1 a2 a3 b1 b2 b3 c1 c2 c3 d1 d2 d3 w
  have Z2 := Lib.hid fun w => mxisZero_any i1 i2 i3 j1 j2 j3 k1 k2 k3 l1 l2 l3 w
  obtain ⟨o, e1⟩ : ∃ o, foldO true [(timesF b1 b2 b3 i1 i2 i3, timesF a1 a2 a3 j1 j2 j3), (timesF c1 c2 c3 i1 i2 i3, timesF a1 a2 a3 k1 k2 k3), (timesF c1 c2 c3 j1 j2 j3, timesF b1 b2 b3 k1 k2 k3), (timesF d1 d2 d3 i1 i2 i3, timesF a1 a2 a3 l1 l2 l3), (timesF d1 d2 d3 j1 j2 j3, timesF b1 b2 b3 l1 l2 l3), (timesF d1 d2 d3 k1 k2 k3, timesF c1 c2 c3 l1 l2 l3)] = o := ⟨_, rfl⟩
  obtain ⟨z1, e2⟩ : ∃ z, eqM4 ((a1, a2, a3), (b1, b2, b3), (c1, c2, c3), (d1, d2, d3)) zeroM = z := ⟨_, rfl⟩
  obtain ⟨z2, e3⟩ : ∃ z, eqM4 ((i1, i2, i3), (j1, j2, j3), (k1, k2, k3), (l1, l2, l3)) zeroM = z := ⟨_, rfl⟩
  rw [e1] at C ⊢
  rw [e2] at Z1 ⊢
  rw [e3] at Z2 ⊢
  clear e1 e2 e3 ha1 ha2 ha3 hb1 hb2 hb3 hc1 hc2 hc3 hd1 hd2 hd3 hi1 hi2 hi3 hj1 hj2 hj3 hk1 hk2 hk3 hl1 hl2 hl3
  cases o with
  | none =>
    go_enter Tryz.func67, Tryz.ntmps67
    go_wp2_with fail
    refine (C.out _).mono ?_
    rintro e W1 ⟨-, h, hb⟩
    obtain ⟨s, rfl⟩ := h rfl
    clear h
    obtain ⟨Ba, Bb⟩ : Blk W1 (w.heap.size) [.int .i64 a1, .int .i64 a2, .int .i64 a3, .int .i64 b1, .int .i64 b2, .int .i64 b3, .int .i64 c1, .int .i64 c2, .int .i64 c3, .int .i64 d1, .int .i64 d2, .int .i64 d3] ∧ Blk W1 (w.heap.size + 1) [.int .i64 i1, .int .i64 i2, .int .i64 i3, .int .i64 j1, .int .i64 j2, .int .i64 j3, .int .i64 k1, .int .i64 k2, .int .i64 k3, .int .i64 l1, .int .i64 l2, .int .i64 l3] := by
      refine ⟨?_, ?_⟩ <;> refine Blk.keep hb ?_ <;> (repeat' (first | (with_reducible first | assumption | refine Blk.drew ?_ | refine Blk.drewN ?_ _ | apply Blk.set | (refine Blk.new ?_; focus (first | rfl | (simp; done))) | refine Blk.alloc ?_ _ | refine Blk.other ?_ ?_ _) | exact eqL rfl | (refine neB ?_; omega)))
    have ca := Ba.cell
    have fa := Ba.free
    have la_W1 := Ba.lt
    have cb := Bb.cell
    have fb := Bb.free
    have lb_W1 := Bb.lt
    have kaW1 : Acc w W1 := by
      refine Acc.call ?_ hb
      (repeat' (first | (with_reducible first | assumption | exact Acc.refl _ | refine Acc.drew ?_ | refine Acc.drewN ?_ _ | refine Acc.alloc ?_ _ | refine Acc.setCell ?_ ?_ _) | (refine leB ?_; omega)))
    clear hb
    go_upto_region 2 with fail
    go_quiet (fail)
    all_goals
      go_wp2_with fail
      go_ret2
      refine ⟨fun _ h => (by cases h), fun _ => ⟨_, rfl⟩, ?_⟩
      show Acc w _
      (repeat' (first | (with_reducible first | assumption | exact Acc.refl _ | refine Acc.drew ?_ | refine Acc.drewN ?_ _ | refine Acc.alloc ?_ _ | refine Acc.setCell ?_ ?_ _) | (refine leB ?_; omega)))
  | some s =>
    cases s with
    | false =>
      go_enter Tryz.func67, Tryz.ntmps67
      go_wp2_with fail
      refine (C.out _).mono ?_
      rintro e W1 ⟨h, -, hb⟩
      obtain rfl := h _ rfl
      clear h
      obtain ⟨Ba, Bb⟩ : Blk W1 (w.heap.size) [.int .i64 a1, .int .i64 a2, .int .i64 a3, .int .i64 b1, .int .i64 b2, .int .i64 b3, .int .i64 c1, .int .i64 c2, .int .i64 c3, .int .i64 d1, .int .i64 d2, .int .i64 d3] ∧ Blk W1 (w.heap.size + 1) [.int .i64 i1, .int .i64 i2, .int .i64 i3, .int .i64 j1, .int .i64 j2, .int .i64 j3, .int .i64 k1, .int .i64 k2, .int .i64 k3, .int .i64 l1, .int .i64 l2, .int .i64 l3] := by
        refine ⟨?_, ?_⟩ <;> refine Blk.keep hb ?_ <;> (repeat' (first | (with_reducible first | assumption | refine Blk.drew ?_ | refine Blk.drewN ?_ _ | apply Blk.set | (refine Blk.new ?_; focus (first | rfl | (simp; done))) | refine Blk.alloc ?_ _ | refine Blk.other ?_ ?_ _) | exact eqL rfl | (refine neB ?_; omega)))
      have ca := Ba.cell
      have fa := Ba.free
      have la_W1 := Ba.lt
      have cb := Bb.cell
      have fb := Bb.free
      have lb_W1 := Bb.lt
      have kaW1 : Acc w W1 := by
        refine Acc.call ?_ hb
        (repeat' (first | (with_reducible first | assumption | exact Acc.refl _ | refine Acc.drew ?_ | refine Acc.drewN ?_ _ | refine Acc.alloc ?_ _ | refine Acc.setCell ?_ ?_ _) | (refine leB ?_; omega)))
      clear hb
      go_upto_region 2 with fail
      go_quiet (fail)
      all_goals
        go_wp2_with fail
        go_ret2
        refine ⟨fun _ h => (by cases h; first | rfl | (simp; done)), fun h => (by cases h), ?_⟩
        show Acc w _
        (repeat' (first | (with_reducible first | assumption | exact Acc.refl _ | refine Acc.drew ?_ | refine Acc.drewN ?_ _ | refine Acc.alloc ?_ _ | refine Acc.setCell ?_ ?_ _) | (refine leB ?_; omega)))
    | true =>
      go_enter Tryz.func67, Tryz.ntmps67
      go_wp2_with fail
      refine (C.out _).mono ?_
      rintro e W1 ⟨h, -, hb⟩
      obtain rfl := h _ rfl
      clear h
      obtain ⟨Ba, Bb⟩ : Blk W1 (w.heap.size) [.int .i64 a1, .int .i64 a2, .int .i64 a3, .int .i64 b1, .int .i64 b2, .int .i64 b3, .int .i64 c1, .int .i64 c2, .int .i64 c3, .int .i64 d1, .int .i64 d2, .int .i64 d3] ∧ Blk W1 (w.heap.size + 1) [.int .i64 i1, .int .i64 i2, .int .i64 i3, .int .i64 j1, .int .i64 j2, .int .i64 j3, .int .i64 k1, .int .i64 k2, .int .i64 k3, .int .i64 l1, .int .i64 l2, .int .i64 l3] := by
        refine ⟨?_, ?_⟩ <;> refine Blk.keep hb ?_ <;> (repeat' (first | (with_reducible first | assumption | refine Blk.drew ?_ | refine Blk.drewN ?_ _ | apply Blk.set | (refine Blk.new ?_; focus (first | rfl | (simp; done))) | refine Blk.alloc ?_ _ | refine Blk.other ?_ ?_ _) | exact eqL rfl | (refine neB ?_; omega)))
      have ca := Ba.cell
      have fa := Ba.free
      have la_W1 := Ba.lt
      have cb := Bb.cell
      have fb := Bb.free
      have lb_W1 := Bb.lt
      have kaW1 : Acc w W1 := by
        refine Acc.call ?_ hb
        (repeat' (first | (with_reducible first | assumption | exact Acc.refl _ | refine Acc.drew ?_ | refine Acc.drewN ?_ _ | refine Acc.alloc ?_ _ | refine Acc.setCell ?_ ?_ _) | (refine leB ?_; omega)))
      clear hb
      go_upto_region 2 with fail
      go_region_held3 (fun w' => (∀ k, w'.cell? ⟨w.heap.size, k, none⟩ = [.int .i64 a1, .int .i64 a2, .int .i64 a3, .int .i64 b1, .int .i64 b2, .int .i64 b3, .int .i64 c1, .int .i64 c2, .int .i64 c3, .int .i64 d1, .int .i64 d2, .int .i64 d3][k]?) ∧ (∀ k, w'.cell? ⟨w.heap.size + 1, k, none⟩ = [.int .i64 i1, .int .i64 i2, .int .i64 i3, .int .i64 j1, .int .i64 j2, .int .i64 j3, .int .i64 k1, .int .i64 k2, .int .i64 k3, .int .i64 l1, .int .i64 l2, .int .i64 l3][k]?))
        (((try dsimp only); (refine ⟨Blk.cell ?_, Blk.cell ?_⟩ <;> (repeat' (first | (with_reducible first | assumption | refine Blk.drew ?_ | refine Blk.drewN ?_ _ | apply Blk.set | (refine Blk.new ?_; focus (first | rfl | (simp; done))) | refine Blk.alloc ?_ _ | refine Blk.other ?_ ?_ _) | exact eqL rfl | (refine neB ?_; omega))))))
        (first
          | (go_at_call_of 87 (Value.int IntKind.i64 a1); refine (Z1.out _).mono ?_; rintro e W7 ⟨rfl, hb⟩; have Ba : Blk W7 (w.heap.size) [.int .i64 a1, .int .i64 a2, .int .i64 a3, .int .i64 b1, .int .i64 b2, .int .i64 b3, .int .i64 c1, .int .i64 c2, .int .i64 c3, .int .i64 d1, .int .i64 d2, .int .i64 d3] := Blk.keep hb (by repeat' (first | (with_reducible first | assumption | refine Blk.drew ?_ | refine Blk.drewN ?_ _ | apply Blk.set | (refine Blk.new ?_; focus (first | rfl | (simp; done))) | refine Blk.alloc ?_ _ | refine Blk.other ?_ ?_ _) | exact eqL rfl | (refine neB ?_; omega))); have Bb : Blk W7 (w.heap.size + 1) [.int .i64 i1, .int .i64 i2, .int .i64 i3, .int .i64 j1, .int .i64 j2, .int .i64 j3, .int .i64 k1, .int .i64 k2, .int .i64 k3, .int .i64 l1, .int .i64 l2, .int .i64 l3] := Blk.keep hb (by repeat' (first | (with_reducible first | assumption | refine Blk.drew ?_ | refine Blk.drewN ?_ _ | apply Blk.set | (refine Blk.new ?_; focus (first | rfl | (simp; done))) | refine Blk.alloc ?_ _ | refine Blk.other ?_ ?_ _) | exact eqL rfl | (refine neB ?_; omega))); have ca := Ba.cell; have fa := Ba.free; have la_W7 := Ba.lt; have cb := Bb.cell; have fb := Bb.free; have lb_W7 := Bb.lt; have kaW7 : Acc w W7 := (by refine Acc.call ?_ hb; (repeat' (first | (with_reducible first | assumption | exact Acc.refl _ | refine Acc.drew ?_ | refine Acc.drewN ?_ _ | refine Acc.alloc ?_ _ | refine Acc.setCell ?_ ?_ _) | (refine leB ?_; omega)))); clear hb)
          | (go_at_call_of 87 (Value.int IntKind.i64 i1); refine (Z2.out _).mono ?_; rintro e W8 ⟨rfl, hb⟩; have Ba : Blk W8 (w.heap.size) [.int .i64 a1, .int .i64 a2, .int .i64 a3, .int .i64 b1, .int .i64 b2, .int .i64 b3, .int .i64 c1, .int .i64 c2, .int .i64 c3, .int .i64 d1, .int .i64 d2, .int .i64 d3] := Blk.keep hb (by repeat' (first | (with_reducible first | assumption | refine Blk.drew ?_ | refine Blk.drewN ?_ _ | apply Blk.set | (refine Blk.new ?_; focus (first | rfl | (simp; done))) | refine Blk.alloc ?_ _ | refine Blk.other ?_ ?_ _) | exact eqL rfl | (refine neB ?_; omega))); have Bb : Blk W8 (w.heap.size + 1) [.int .i64 i1, .int .i64 i2, .int .i64 i3, .int .i64 j1, .int .i64 j2, .int .i64 j3, .int .i64 k1, .int .i64 k2, .int .i64 k3, .int .i64 l1, .int .i64 l2, .int .i64 l3] := Blk.keep hb (by repeat' (first | (with_reducible first | assumption | refine Blk.drew ?_ | refine Blk.drewN ?_ _ | apply Blk.set | (refine Blk.new ?_; focus (first | rfl | (simp; done))) | refine Blk.alloc ?_ _ | refine Blk.other ?_ ?_ _) | exact eqL rfl | (refine neB ?_; omega))); have ca := Ba.cell; have fa := Ba.free; have la_W8 := Ba.lt; have cb := Bb.cell; have fb := Bb.free; have lb_W8 := Bb.lt; have kaW8 : Acc w W8 := (by refine Acc.call ?_ hb; (repeat' (first | (with_reducible first | assumption | exact Acc.refl _ | refine Acc.drew ?_ | refine Acc.drewN ?_ _ | refine Acc.alloc ?_ _ | refine Acc.setCell ?_ ?_ _) | (refine leB ?_; omega)))); clear hb))
      all_goals
        go_wp2_with fail
        go_ret2
        refine ⟨fun _ h => (by cases h; first | rfl | (simp; done)), fun h => (by cases h), ?_⟩
        show Acc w _
        (repeat' (first | (with_reducible first | assumption | exact Acc.refl _ | refine Acc.drew ?_ | refine Acc.drewN ?_ _ | refine Acc.alloc ?_ _ | refine Acc.setCell ?_ ?_ _) | (refine leB ?_; omega)))
end Go.Proofs.YtkiggkmbgkonmaaGreatDoor
