/-
  The program's four numbers: one by one, by a function.
-/
import Derived.Test.YtgmpbdndkjnbfaaDoorImplN1
namespace Go.Proofs.YtgmpbdndkjnbfaaDoor
open Go.ChangeShapes Go.WideShapes Go.ChangeAt Go.RowKit
set_option linter.unusedVariables false

set_option maxHeartbeats 8000000 in
theorem eachKind_tapply (p q : Value) (o0 o1 o2 o3 : Option (Int × Int × Int)) (w : World)
    (K0 : ∀ W, Acc w W → Calls Tryd.prog 42 #[.int .i64 0, p, q] W (Erred o0 W)) (K1 : ∀ W, Acc w W → Calls Tryd.prog 42 #[.int .i64 1, p, q] W (Erred o1 W)) (K2 : ∀ W, Acc w W → Calls Tryd.prog 42 #[.int .i64 2, p, q] W (Erred o2 W)) (K3 : ∀ W, Acc w W → Calls Tryd.prog 42 #[.int .i64 3, p, q] W (Erred o3 W)) :
    Calls Tryd.prog 41 #[.func (.func 42) #[] #[p, q]] w (ErredM (quadO o0 o1 o2 o3) w) := by
  have HK0 := Lib.hid K0
  have HK1 := Lib.hid K1
  have HK2 := Lib.hid K2
  have HK3 := Lib.hid K3
  clear K0 K1 K2 K3
  have qmk := @run_makeMap Tryd.prog
  have qr1 := @mapOf_drew
  have qr2 := @mapOf_drewN
  have qr3 := @mapOf_cells
  have qr4 := @mapOf_made
  have qr5 := @mapOf_setCell
  have qr6 := @mapOf_put
  have qr7 := @cell_mapPut
  have qr8 := @frozen_mapPut
  have qr9 := @size_mapPut
  have qr10 := @cell_made
  have qr11 := @frozen_made
  have qr12 := @tape_mapPut
  have qu0 := upd0
  have qu1 := upd1
  have qu2 := upd2
  have qu3 := upd3
  go_enter Tryd.func41, Tryd.ntmps41
  go_wp2_with fail
  refine wp_loop_rounds 5 ?_
  rw [rounds_succ]
  go_wp2_with fail
  refine (HK0.out _ (by repeat' (first | (with_reducible first | assumption | exact Acc.refl _ | refine Acc.drew ?_ | refine Acc.drewN ?_ _ | refine Acc.alloc ?_ _ | refine Acc.setCell ?_ ?_ _ | refine Acc.mapPut ?_ ?_ _ _) | (refine leB ?_; omega)))).mono ?_
  rintro e W1 ⟨h1, h2, hb⟩
  have Mn : Mp W1 (w.heap.size) [] := Mp.keep hb (by repeat' (first | (with_reducible first | assumption | refine Mp.drew ?_ | refine Mp.drewN ?_ _ | refine Mp.set ?_ _ _ | (refine Mp.new ?_; focus (first | rfl | (simp; done)))) | (with_reducible first | refine Mp.putOther ?_ ?_ _ _ | refine Mp.alloc ?_ _) | (refine neB ?_; omega)))
  have mn := Mn.out
  have nn_W1 := Mn.lt
  have kaW1 : Acc w W1 := by
    refine Acc.call ?_ hb
    (repeat' (first | (with_reducible first | assumption | exact Acc.refl _ | refine Acc.drew ?_ | refine Acc.drewN ?_ _ | refine Acc.alloc ?_ _ | refine Acc.setCell ?_ ?_ _ | refine Acc.mapPut ?_ ?_ _ _) | (refine leB ?_; omega)))
  clear hb
  cases o0 with
  | none =>
    obtain ⟨s, rfl⟩ := h2 rfl
    clear h1 h2
    go_wp2_with fail
    go_ret2
    refine ⟨fun _ _ _ _ _ _ _ _ _ _ _ _ h => (by cases h), fun _ => ⟨_, rfl⟩, ?_⟩
    show Acc w _
    (repeat' (first | (with_reducible first | assumption | exact Acc.refl _ | refine Acc.drew ?_ | refine Acc.drewN ?_ _ | refine Acc.alloc ?_ _ | refine Acc.setCell ?_ ?_ _ | refine Acc.mapPut ?_ ?_ _ _) | (refine leB ?_; omega)))
  | some u =>
    obtain ⟨a1, a2, a3⟩ := u
    obtain rfl := h1 _ _ _ rfl
    clear h1 h2
    go_wp2_with fail
    rw [rounds_succ]
    go_wp2_with fail
    refine (HK1.out _ (by repeat' (first | (with_reducible first | assumption | exact Acc.refl _ | refine Acc.drew ?_ | refine Acc.drewN ?_ _ | refine Acc.alloc ?_ _ | refine Acc.setCell ?_ ?_ _ | refine Acc.mapPut ?_ ?_ _ _) | (refine leB ?_; omega)))).mono ?_
    rintro e W2 ⟨h1, h2, hb⟩
    have Mn : Mp W2 (w.heap.size) [.agg #[.int .i64 a1, .int .i64 a2, .int .i64 a3]] := Mp.keep hb (by repeat' (first | (with_reducible first | assumption | refine Mp.drew ?_ | refine Mp.drewN ?_ _ | refine Mp.set ?_ _ _ | (refine Mp.new ?_; focus (first | rfl | (simp; done)))) | (refine Mp.put (vs := []) ?_ rfl rfl) | (with_reducible first | refine Mp.putOther ?_ ?_ _ _ | refine Mp.alloc ?_ _) | (refine neB ?_; omega)))
    have mn := Mn.out
    have nn_W2 := Mn.lt
    have kaW2 : Acc w W2 := by
      refine Acc.call ?_ hb
      (repeat' (first | (with_reducible first | assumption | exact Acc.refl _ | refine Acc.drew ?_ | refine Acc.drewN ?_ _ | refine Acc.alloc ?_ _ | refine Acc.setCell ?_ ?_ _ | refine Acc.mapPut ?_ ?_ _ _) | (refine leB ?_; omega)))
    clear hb
    cases o1 with
    | none =>
      obtain ⟨s, rfl⟩ := h2 rfl
      clear h1 h2
      go_wp2_with fail
      go_ret2
      refine ⟨fun _ _ _ _ _ _ _ _ _ _ _ _ h => (by cases h), fun _ => ⟨_, rfl⟩, ?_⟩
      show Acc w _
      (repeat' (first | (with_reducible first | assumption | exact Acc.refl _ | refine Acc.drew ?_ | refine Acc.drewN ?_ _ | refine Acc.alloc ?_ _ | refine Acc.setCell ?_ ?_ _ | refine Acc.mapPut ?_ ?_ _ _) | (refine leB ?_; omega)))
    | some u =>
      obtain ⟨b1, b2, b3⟩ := u
      obtain rfl := h1 _ _ _ rfl
      clear h1 h2
      go_wp2_with fail
      rw [rounds_succ]
      go_wp2_with fail
      refine (HK2.out _ (by repeat' (first | (with_reducible first | assumption | exact Acc.refl _ | refine Acc.drew ?_ | refine Acc.drewN ?_ _ | refine Acc.alloc ?_ _ | refine Acc.setCell ?_ ?_ _ | refine Acc.mapPut ?_ ?_ _ _) | (refine leB ?_; omega)))).mono ?_
      rintro e W3 ⟨h1, h2, hb⟩
      have Mn : Mp W3 (w.heap.size) [.agg #[.int .i64 a1, .int .i64 a2, .int .i64 a3], .agg #[.int .i64 b1, .int .i64 b2, .int .i64 b3]] := Mp.keep hb (by repeat' (first | (with_reducible first | assumption | refine Mp.drew ?_ | refine Mp.drewN ?_ _ | refine Mp.set ?_ _ _ | (refine Mp.new ?_; focus (first | rfl | (simp; done)))) | (refine Mp.put (vs := []) ?_ rfl rfl) | (refine Mp.put (vs := [.agg #[.int .i64 a1, .int .i64 a2, .int .i64 a3]]) ?_ rfl rfl) | (with_reducible first | refine Mp.putOther ?_ ?_ _ _ | refine Mp.alloc ?_ _) | (refine neB ?_; omega)))
      have mn := Mn.out
      have nn_W3 := Mn.lt
      have kaW3 : Acc w W3 := by
        refine Acc.call ?_ hb
        (repeat' (first | (with_reducible first | assumption | exact Acc.refl _ | refine Acc.drew ?_ | refine Acc.drewN ?_ _ | refine Acc.alloc ?_ _ | refine Acc.setCell ?_ ?_ _ | refine Acc.mapPut ?_ ?_ _ _) | (refine leB ?_; omega)))
      clear hb
      cases o2 with
      | none =>
        obtain ⟨s, rfl⟩ := h2 rfl
        clear h1 h2
        go_wp2_with fail
        go_ret2
        refine ⟨fun _ _ _ _ _ _ _ _ _ _ _ _ h => (by cases h), fun _ => ⟨_, rfl⟩, ?_⟩
        show Acc w _
        (repeat' (first | (with_reducible first | assumption | exact Acc.refl _ | refine Acc.drew ?_ | refine Acc.drewN ?_ _ | refine Acc.alloc ?_ _ | refine Acc.setCell ?_ ?_ _ | refine Acc.mapPut ?_ ?_ _ _) | (refine leB ?_; omega)))
      | some u =>
        obtain ⟨c1, c2, c3⟩ := u
        obtain rfl := h1 _ _ _ rfl
        clear h1 h2
        go_wp2_with fail
        rw [rounds_succ]
        go_wp2_with fail
        refine (HK3.out _ (by repeat' (first | (with_reducible first | assumption | exact Acc.refl _ | refine Acc.drew ?_ | refine Acc.drewN ?_ _ | refine Acc.alloc ?_ _ | refine Acc.setCell ?_ ?_ _ | refine Acc.mapPut ?_ ?_ _ _) | (refine leB ?_; omega)))).mono ?_
        rintro e W4 ⟨h1, h2, hb⟩
        have Mn : Mp W4 (w.heap.size) [.agg #[.int .i64 a1, .int .i64 a2, .int .i64 a3], .agg #[.int .i64 b1, .int .i64 b2, .int .i64 b3], .agg #[.int .i64 c1, .int .i64 c2, .int .i64 c3]] := Mp.keep hb (by repeat' (first | (with_reducible first | assumption | refine Mp.drew ?_ | refine Mp.drewN ?_ _ | refine Mp.set ?_ _ _ | (refine Mp.new ?_; focus (first | rfl | (simp; done)))) | (refine Mp.put (vs := []) ?_ rfl rfl) | (refine Mp.put (vs := [.agg #[.int .i64 a1, .int .i64 a2, .int .i64 a3]]) ?_ rfl rfl) | (refine Mp.put (vs := [.agg #[.int .i64 a1, .int .i64 a2, .int .i64 a3], .agg #[.int .i64 b1, .int .i64 b2, .int .i64 b3]]) ?_ rfl rfl) | (with_reducible first | refine Mp.putOther ?_ ?_ _ _ | refine Mp.alloc ?_ _) | (refine neB ?_; omega)))
        have mn := Mn.out
        have nn_W4 := Mn.lt
        have kaW4 : Acc w W4 := by
          refine Acc.call ?_ hb
          (repeat' (first | (with_reducible first | assumption | exact Acc.refl _ | refine Acc.drew ?_ | refine Acc.drewN ?_ _ | refine Acc.alloc ?_ _ | refine Acc.setCell ?_ ?_ _ | refine Acc.mapPut ?_ ?_ _ _) | (refine leB ?_; omega)))
        clear hb
        cases o3 with
        | none =>
          obtain ⟨s, rfl⟩ := h2 rfl
          clear h1 h2
          go_wp2_with fail
          go_ret2
          refine ⟨fun _ _ _ _ _ _ _ _ _ _ _ _ h => (by cases h), fun _ => ⟨_, rfl⟩, ?_⟩
          show Acc w _
          (repeat' (first | (with_reducible first | assumption | exact Acc.refl _ | refine Acc.drew ?_ | refine Acc.drewN ?_ _ | refine Acc.alloc ?_ _ | refine Acc.setCell ?_ ?_ _ | refine Acc.mapPut ?_ ?_ _ _) | (refine leB ?_; omega)))
        | some u =>
          obtain ⟨d1, d2, d3⟩ := u
          obtain rfl := h1 _ _ _ rfl
          clear h1 h2
          go_wp2_with fail
          rw [rounds_succ]
          go_wp2_with fail
          go_ret2
          refine ⟨fun _ _ _ _ _ _ _ _ _ _ _ _ h => ⟨w.heap.size, leB (by omega), ?_, ?_⟩, fun h => (by cases h), ?_⟩
          · rfl
          · obtain ⟨⟩ := h
            (repeat' (first | (with_reducible first | assumption | refine Mp.drew ?_ | refine Mp.drewN ?_ _ | refine Mp.set ?_ _ _ | (refine Mp.new ?_; focus (first | rfl | (simp; done)))) | (refine Mp.put (vs := []) ?_ rfl rfl) | (refine Mp.put (vs := [.agg #[.int .i64 a1, .int .i64 a2, .int .i64 a3]]) ?_ rfl rfl) | (refine Mp.put (vs := [.agg #[.int .i64 a1, .int .i64 a2, .int .i64 a3], .agg #[.int .i64 b1, .int .i64 b2, .int .i64 b3]]) ?_ rfl rfl) | (refine Mp.put (vs := [.agg #[.int .i64 a1, .int .i64 a2, .int .i64 a3], .agg #[.int .i64 b1, .int .i64 b2, .int .i64 b3], .agg #[.int .i64 c1, .int .i64 c2, .int .i64 c3]]) ?_ rfl rfl) | (with_reducible first | refine Mp.putOther ?_ ?_ _ _ | refine Mp.alloc ?_ _) | (refine neB ?_; omega)))
          · show Acc w _
            (repeat' (first | (with_reducible first | assumption | exact Acc.refl _ | refine Acc.drew ?_ | refine Acc.drewN ?_ _ | refine Acc.alloc ?_ _ | refine Acc.setCell ?_ ?_ _ | refine Acc.mapPut ?_ ?_ _ _) | (refine leB ?_; omega)))
end Go.Proofs.YtgmpbdndkjnbfaaDoor
