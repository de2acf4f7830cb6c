/-
  The program's single vectors: both parts.
-/
import Derived.Test.YtbihlkienhbapaaDoorImplW
namespace Go.Proofs.YtbihlkienhbapaaDoor
open Go.ChangeShapes Go.WideShapes Go.ChangeAt Go.RowKit
set_option linter.unusedVariables false

set_option maxHeartbeats 1000000 in
theorem vsingle0T (x1 x2 x3 y1 y2 y3 : Int) (hx1 : i64B x1) (hx2 : i64B x2) (hx3 : i64B x3) (hy1 : i64B y1) (hy2 : i64B y2) (hy3 : i64B y3) (h : okF x1 x2 x3 = true) (w : World) :
    Calls Tryd.prog 72 #[.agg #[.int .i64 x1, .int .i64 x2, .int .i64 x3, .int .i64 y1, .int .i64 y2, .int .i64 y3], .int .i64 0] w fun e w' => e = .returned (.tuple #[.complex .f32 (singleOf x1 x3) (singleOf x2 x3), .nilIface]) ∧ Below w.heap.size w w' := by
  have D := Lib.hid fun w => msingleT h hx1 hx2 hx3 w
  clear h hx1 hx2 hx3 hy1 hy2 hy3
  go_enter Tryd.func72, Tryd.ntmps72
  go_wp2_with fail
  refine (D.out _).mono ?_
  rintro e W1 ⟨rfl, hb⟩
  have Ba : Blk W1 (w.heap.size) [.int .i64 x1, .int .i64 x2, .int .i64 x3, .int .i64 y1, .int .i64 y2, .int .i64 y3] := Blk.keep hb (by repeat' (first | (with_reducible first | assumption | refine Blk.drew ?_ | refine Blk.drewN ?_ _ | apply Blk.set | (refine Blk.new ?_; focus (first | rfl | (simp; done))) | refine Blk.alloc ?_ _ | refine Blk.other ?_ ?_ _) | exact eqL rfl | (refine neB ?_; omega)))
  have ca := Ba.cell
  have fa := Ba.free
  have la_W1 := Ba.lt
  have kaW1 : Acc w W1 := by
    refine Acc.call ?_ hb
    (repeat' (first | (with_reducible first | assumption | exact Acc.refl _ | refine Acc.drew ?_ | refine Acc.drewN ?_ _ | refine Acc.alloc ?_ _ | refine Acc.setCell ?_ ?_ _) | (refine leB ?_; omega)))
  clear hb
  go_wp2_with fail
  go_ret2
  refine ⟨rfl, ?_⟩
  show Acc w _
  (repeat' (first | (with_reducible first | assumption | exact Acc.refl _ | refine Acc.drew ?_ | refine Acc.drewN ?_ _ | refine Acc.alloc ?_ _ | refine Acc.setCell ?_ ?_ _) | (refine leB ?_; omega)))
set_option maxHeartbeats 1000000 in
theorem vsingle0N (x1 x2 x3 y1 y2 y3 : Int) (hx1 : i64B x1) (hx2 : i64B x2) (hx3 : i64B x3) (hy1 : i64B y1) (hy2 : i64B y2) (hy3 : i64B y3) (h : okF x1 x2 x3 = false) (w : World) :
    Calls Tryd.prog 72 #[.agg #[.int .i64 x1, .int .i64 x2, .int .i64 x3, .int .i64 y1, .int .i64 y2, .int .i64 y3], .int .i64 0] w fun e w' => (∃ s, e = .returned (.tuple #[.complex .f32 0 0, .iface 109 (.agg #[.string s])])) ∧ Below w.heap.size w w' := by
  have D := Lib.hid fun w => msingleN h hx1 hx2 hx3 w
  clear h hx1 hx2 hx3 hy1 hy2 hy3
  go_enter Tryd.func72, Tryd.ntmps72
  go_wp2_with fail
  refine (D.out _).mono ?_
  rintro e W1 ⟨⟨s, rfl⟩, hb⟩
  have Ba : Blk W1 (w.heap.size) [.int .i64 x1, .int .i64 x2, .int .i64 x3, .int .i64 y1, .int .i64 y2, .int .i64 y3] := Blk.keep hb (by repeat' (first | (with_reducible first | assumption | refine Blk.drew ?_ | refine Blk.drewN ?_ _ | apply Blk.set | (refine Blk.new ?_; focus (first | rfl | (simp; done))) | refine Blk.alloc ?_ _ | refine Blk.other ?_ ?_ _) | exact eqL rfl | (refine neB ?_; omega)))
  have ca := Ba.cell
  have fa := Ba.free
  have la_W1 := Ba.lt
  have kaW1 : Acc w W1 := by
    refine Acc.call ?_ hb
    (repeat' (first | (with_reducible first | assumption | exact Acc.refl _ | refine Acc.drew ?_ | refine Acc.drewN ?_ _ | refine Acc.alloc ?_ _ | refine Acc.setCell ?_ ?_ _) | (refine leB ?_; omega)))
  clear hb
  go_wp2_with fail
  go_ret2
  refine ⟨⟨_, rfl⟩, ?_⟩
  show Acc w _
  (repeat' (first | (with_reducible first | assumption | exact Acc.refl _ | refine Acc.drew ?_ | refine Acc.drewN ?_ _ | refine Acc.alloc ?_ _ | refine Acc.setCell ?_ ?_ _) | (refine leB ?_; omega)))
set_option maxHeartbeats 1000000 in
theorem vsingle1T (x1 x2 x3 y1 y2 y3 : Int) (hx1 : i64B x1) (hx2 : i64B x2) (hx3 : i64B x3) (hy1 : i64B y1) (hy2 : i64B y2) (hy3 : i64B y3) (h : okF y1 y2 y3 = true) (w : World) :
    Calls Tryd.prog 72 #[.agg #[.int .i64 x1, .int .i64 x2, .int .i64 x3, .int .i64 y1, .int .i64 y2, .int .i64 y3], .int .i64 1] w fun e w' => e = .returned (.tuple #[.complex .f32 (singleOf y1 y3) (singleOf y2 y3), .nilIface]) ∧ Below w.heap.size w w' := by
  have D := Lib.hid fun w => msingleT h hy1 hy2 hy3 w
  clear h hx1 hx2 hx3 hy1 hy2 hy3
  go_enter Tryd.func72, Tryd.ntmps72
  go_wp2_with fail
  refine (D.out _).mono ?_
  rintro e W1 ⟨rfl, hb⟩
  have Ba : Blk W1 (w.heap.size) [.int .i64 x1, .int .i64 x2, .int .i64 x3, .int .i64 y1, .int .i64 y2, .int .i64 y3] := Blk.keep hb (by repeat' (first | (with_reducible first | assumption | refine Blk.drew ?_ | refine Blk.drewN ?_ _ | apply Blk.set | (refine Blk.new ?_; focus (first | rfl | (simp; done))) | refine Blk.alloc ?_ _ | refine Blk.other ?_ ?_ _) | exact eqL rfl | (refine neB ?_; omega)))
  have ca := Ba.cell
  have fa := Ba.free
  have la_W1 := Ba.lt
  have kaW1 : Acc w W1 := by
    refine Acc.call ?_ hb
    (repeat' (first | (with_reducible first | assumption | exact Acc.refl _ | refine Acc.drew ?_ | refine Acc.drewN ?_ _ | refine Acc.alloc ?_ _ | refine Acc.setCell ?_ ?_ _) | (refine leB ?_; omega)))
  clear hb
  go_wp2_with fail
  go_ret2
  refine ⟨rfl, ?_⟩
  show Acc w _
  (repeat' (first | (with_reducible first | assumption | exact Acc.refl _ | refine Acc.drew ?_ | refine Acc.drewN ?_ _ | refine Acc.alloc ?_ _ | refine Acc.setCell ?_ ?_ _) | (refine leB ?_; omega)))
set_option maxHeartbeats 1000000 in
theorem vsingle1N (x1 x2 x3 y1 y2 y3 : Int) (hx1 : i64B x1) (hx2 : i64B x2) (hx3 : i64B x3) (hy1 : i64B y1) (hy2 : i64B y2) (hy3 : i64B y3) (h : okF y1 y2 y3 = false) (w : World) :
    Calls Tryd.prog 72 #[.agg #[.int .i64 x1, .int .i64 x2, .int .i64 x3, .int .i64 y1, .int .i64 y2, .int .i64 y3], .int .i64 1] w fun e w' => (∃ s, e = .returned (.tuple #[.complex .f32 0 0, .iface 109 (.agg #[.string s])])) ∧ Below w.heap.size w w' := by
  have D := Lib.hid fun w => msingleN h hy1 hy2 hy3 w
  clear h hx1 hx2 hx3 hy1 hy2 hy3
  go_enter Tryd.func72, Tryd.ntmps72
  go_wp2_with fail
  refine (D.out _).mono ?_
  rintro e W1 ⟨⟨s, rfl⟩, hb⟩
  have Ba : Blk W1 (w.heap.size) [.int .i64 x1, .int .i64 x2, .int .i64 x3, .int .i64 y1, .int .i64 y2, .int .i64 y3] := Blk.keep hb (by repeat' (first | (with_reducible first | assumption | refine Blk.drew ?_ | refine Blk.drewN ?_ _ | apply Blk.set | (refine Blk.new ?_; focus (first | rfl | (simp; done))) | refine Blk.alloc ?_ _ | refine Blk.other ?_ ?_ _) | exact eqL rfl | (refine neB ?_; omega)))
  have ca := Ba.cell
  have fa := Ba.free
  have la_W1 := Ba.lt
  have kaW1 : Acc w W1 := by
    refine Acc.call ?_ hb
    (repeat' (first | (with_reducible first | assumption | exact Acc.refl _ | refine Acc.drew ?_ | refine Acc.drewN ?_ _ | refine Acc.alloc ?_ _ | refine Acc.setCell ?_ ?_ _) | (refine leB ?_; omega)))
  clear hb
  go_wp2_with fail
  go_ret2
  refine ⟨⟨_, rfl⟩, ?_⟩
  show Acc w _
  (repeat' (first | (with_reducible first | assumption | exact Acc.refl _ | refine Acc.drew ?_ | refine Acc.drewN ?_ _ | refine Acc.alloc ?_ _ | refine Acc.setCell ?_ ?_ _) | (refine leB ?_; omega)))
/-- What 'both' makes of both parts. -/
def Both_single (x1 x2 x3 y1 y2 y3 : Int) (w : World) (e : Ending) (w' : World) : Prop :=
  ((okF x1 x2 x3 && okF y1 y2 y3) = true → e = .returned (.tuple #[.agg #[.complex .f32 (singleOf x1 x3) (singleOf x2 x3), .complex .f32 (singleOf y1 y3) (singleOf y2 y3)], .nilIface])) ∧ ((okF x1 x2 x3 && okF y1 y2 y3) = false → ∃ s, e = .returned (.tuple #[.agg #[.complex .f32 0 0, .complex .f32 0 0], .iface 109 (.agg #[.string s])])) ∧ Below w.heap.size w w'
set_option maxHeartbeats 2000000 in
theorem both_single (x1 x2 x3 y1 y2 y3 : Int) (hx1 : i64B x1) (hx2 : i64B x2) (hx3 : i64B x3) (hy1 : i64B y1) (hy2 : i64B y2) (hy3 : i64B y3) (w : World) :
    Calls Tryd.prog 71 #[.func (.func 72) #[.agg #[.int .i64 x1, .int .i64 x2, .int .i64 x3, .int .i64 y1, .int .i64 y2, .int .i64 y3]] #[]] w (Both_single x1 x2 x3 y1 y2 y3 w) := by
  unfold Both_single
  cases hX : okF x1 x2 x3 with
  | false =>
    have D := Lib.hid fun w => vsingle0N x1 x2 x3 y1 y2 y3 hx1 hx2 hx3 hy1 hy2 hy3 hX w
    clear hX hx1 hx2 hx3 hy1 hy2 hy3
    have hsc : ∀ (a : Addr) (k : FloatKind) (p q : Nat) (m : Mode) (w : World), (store a (.complex k p q) m).run Tryd.prog w = stored Tryd.prog w a (.complex k p q) m := fun a k p q m w => run_store Tryd.prog w a _ m rfl
    go_enter Tryd.func71, Tryd.ntmps71
    go_wp2_with fail
    refine wp_loop_rounds 3 ?_
    rw [rounds_succ]
    go_wp2_with fail
    refine (D.out _).mono ?_
    rintro e W1 ⟨⟨s, rfl⟩, hb⟩
    have Br : Blk W1 (w.heap.size) [.complex .f32 0 0, .complex .f32 0 0] := Blk.keep hb (by repeat' (first | (with_reducible first | assumption | refine Blk.drew ?_ | refine Blk.drewN ?_ _ | apply Blk.set | (refine Blk.new ?_; focus (first | rfl | (simp; done))) | refine Blk.alloc ?_ _ | refine Blk.other ?_ ?_ _) | exact eqL rfl | (refine neB ?_; omega)))
    have Bp : Blk W1 (w.heap.size + 1) [.complex .f32 0 0, .complex .f32 0 0] := Blk.keep hb (by repeat' (first | (with_reducible first | assumption | refine Blk.drew ?_ | refine Blk.drewN ?_ _ | apply Blk.set | (refine Blk.new ?_; focus (first | rfl | (simp; done))) | refine Blk.alloc ?_ _ | refine Blk.other ?_ ?_ _) | exact eqL rfl | (refine neB ?_; omega)))
    have cr := Br.cell
    have fr := Br.free
    have lr_W1 := Br.lt
    have cp := Bp.cell
    have fp := Bp.free
    have lp_W1 := Bp.lt
    have kaW1 : Acc w W1 := by
      refine Acc.call ?_ hb
      (repeat' (first | (with_reducible first | assumption | exact Acc.refl _ | refine Acc.drew ?_ | refine Acc.drewN ?_ _ | refine Acc.alloc ?_ _ | refine Acc.setCell ?_ ?_ _) | (refine leB ?_; omega)))
    clear hb
    go_wp2_with fail
    refine bodyPost_ret (v := .tuple #[.agg #[.complex .f32 0 0, .complex .f32 0 0], .iface 109 (.agg #[.string s])]) (by simp [results, Tryd.results71, go_sem, *]) rfl ⟨fun h => (by cases h), fun _ => ⟨_, rfl⟩, ?_⟩
    show Acc w _
    (repeat' (first | (with_reducible first | assumption | exact Acc.refl _ | refine Acc.drew ?_ | refine Acc.drewN ?_ _ | refine Acc.alloc ?_ _ | refine Acc.setCell ?_ ?_ _) | (refine leB ?_; omega)))
  | true =>
    cases hY : okF y1 y2 y3 with
    | false =>
      have D := Lib.hid fun w => vsingle0T x1 x2 x3 y1 y2 y3 hx1 hx2 hx3 hy1 hy2 hy3 hX w
      have E := Lib.hid fun w => vsingle1N x1 x2 x3 y1 y2 y3 hx1 hx2 hx3 hy1 hy2 hy3 hY w
      clear hX hY hx1 hx2 hx3 hy1 hy2 hy3
      have hsc : ∀ (a : Addr) (k : FloatKind) (p q : Nat) (m : Mode) (w : World), (store a (.complex k p q) m).run Tryd.prog w = stored Tryd.prog w a (.complex k p q) m := fun a k p q m w => run_store Tryd.prog w a _ m rfl
      go_enter Tryd.func71, Tryd.ntmps71
      go_wp2_with fail
      refine wp_loop_rounds 3 ?_
      rw [rounds_succ]
      go_wp2_with fail
      refine (D.out _).mono ?_
      rintro e W1 ⟨rfl, hb⟩
      have Br : Blk W1 (w.heap.size) [.complex .f32 0 0, .complex .f32 0 0] := Blk.keep hb (by repeat' (first | (with_reducible first | assumption | refine Blk.drew ?_ | refine Blk.drewN ?_ _ | apply Blk.set | (refine Blk.new ?_; focus (first | rfl | (simp; done))) | refine Blk.alloc ?_ _ | refine Blk.other ?_ ?_ _) | exact eqL rfl | (refine neB ?_; omega)))
      have Bp : Blk W1 (w.heap.size + 1) [.complex .f32 0 0, .complex .f32 0 0] := Blk.keep hb (by repeat' (first | (with_reducible first | assumption | refine Blk.drew ?_ | refine Blk.drewN ?_ _ | apply Blk.set | (refine Blk.new ?_; focus (first | rfl | (simp; done))) | refine Blk.alloc ?_ _ | refine Blk.other ?_ ?_ _) | exact eqL rfl | (refine neB ?_; omega)))
      have cr := Br.cell
      have fr := Br.free
      have lr_W1 := Br.lt
      have cp := Bp.cell
      have fp := Bp.free
      have lp_W1 := Bp.lt
      have kaW1 : Acc w W1 := by
        refine Acc.call ?_ hb
        (repeat' (first | (with_reducible first | assumption | exact Acc.refl _ | refine Acc.drew ?_ | refine Acc.drewN ?_ _ | refine Acc.alloc ?_ _ | refine Acc.setCell ?_ ?_ _) | (refine leB ?_; omega)))
      clear hb
      go_wp2_with fail
      rw [rounds_succ]
      go_wp2_with fail
      refine (E.out _).mono ?_
      rintro e W2 ⟨⟨s, rfl⟩, hb⟩
      have Br : Blk W2 (w.heap.size) [.complex .f32 0 0, .complex .f32 0 0] := Blk.keep hb (by repeat' (first | (with_reducible first | assumption | refine Blk.drew ?_ | refine Blk.drewN ?_ _ | apply Blk.set | (refine Blk.new ?_; focus (first | rfl | (simp; done))) | refine Blk.alloc ?_ _ | refine Blk.other ?_ ?_ _) | exact eqL rfl | (refine neB ?_; omega)))
      have Bp : Blk W2 (w.heap.size + 1) [.complex .f32 (singleOf x1 x3) (singleOf x2 x3), .complex .f32 0 0] := Blk.keep hb (by repeat' (first | (with_reducible first | assumption | refine Blk.drew ?_ | refine Blk.drewN ?_ _ | apply Blk.set | (refine Blk.new ?_; focus (first | rfl | (simp; done))) | refine Blk.alloc ?_ _ | refine Blk.other ?_ ?_ _) | exact eqL rfl | (refine neB ?_; omega)))
      have cr := Br.cell
      have fr := Br.free
      have lr_W2 := Br.lt
      have cp := Bp.cell
      have fp := Bp.free
      have lp_W2 := Bp.lt
      have kaW2 : Acc w W2 := by
        refine Acc.call ?_ hb
        (repeat' (first | (with_reducible first | assumption | exact Acc.refl _ | refine Acc.drew ?_ | refine Acc.drewN ?_ _ | refine Acc.alloc ?_ _ | refine Acc.setCell ?_ ?_ _) | (refine leB ?_; omega)))
      clear hb
      go_wp2_with fail
      refine bodyPost_ret (v := .tuple #[.agg #[.complex .f32 0 0, .complex .f32 0 0], .iface 109 (.agg #[.string s])]) (by simp [results, Tryd.results71, go_sem, *]) rfl ⟨fun h => (by cases h), fun _ => ⟨_, rfl⟩, ?_⟩
      show Acc w _
      (repeat' (first | (with_reducible first | assumption | exact Acc.refl _ | refine Acc.drew ?_ | refine Acc.drewN ?_ _ | refine Acc.alloc ?_ _ | refine Acc.setCell ?_ ?_ _) | (refine leB ?_; omega)))
    | true =>
      have D := Lib.hid fun w => vsingle0T x1 x2 x3 y1 y2 y3 hx1 hx2 hx3 hy1 hy2 hy3 hX w
      have E := Lib.hid fun w => vsingle1T x1 x2 x3 y1 y2 y3 hx1 hx2 hx3 hy1 hy2 hy3 hY w
      clear hX hY hx1 hx2 hx3 hy1 hy2 hy3
      have hsc : ∀ (a : Addr) (k : FloatKind) (p q : Nat) (m : Mode) (w : World), (store a (.complex k p q) m).run Tryd.prog w = stored Tryd.prog w a (.complex k p q) m := fun a k p q m w => run_store Tryd.prog w a _ m rfl
      go_enter Tryd.func71, Tryd.ntmps71
      go_wp2_with fail
      refine wp_loop_rounds 3 ?_
      rw [rounds_succ]
      go_wp2_with fail
      refine (D.out _).mono ?_
      rintro e W1 ⟨rfl, hb⟩
      have Br : Blk W1 (w.heap.size) [.complex .f32 0 0, .complex .f32 0 0] := Blk.keep hb (by repeat' (first | (with_reducible first | assumption | refine Blk.drew ?_ | refine Blk.drewN ?_ _ | apply Blk.set | (refine Blk.new ?_; focus (first | rfl | (simp; done))) | refine Blk.alloc ?_ _ | refine Blk.other ?_ ?_ _) | exact eqL rfl | (refine neB ?_; omega)))
      have Bp : Blk W1 (w.heap.size + 1) [.complex .f32 0 0, .complex .f32 0 0] := Blk.keep hb (by repeat' (first | (with_reducible first | assumption | refine Blk.drew ?_ | refine Blk.drewN ?_ _ | apply Blk.set | (refine Blk.new ?_; focus (first | rfl | (simp; done))) | refine Blk.alloc ?_ _ | refine Blk.other ?_ ?_ _) | exact eqL rfl | (refine neB ?_; omega)))
      have cr := Br.cell
      have fr := Br.free
      have lr_W1 := Br.lt
      have cp := Bp.cell
      have fp := Bp.free
      have lp_W1 := Bp.lt
      have kaW1 : Acc w W1 := by
        refine Acc.call ?_ hb
        (repeat' (first | (with_reducible first | assumption | exact Acc.refl _ | refine Acc.drew ?_ | refine Acc.drewN ?_ _ | refine Acc.alloc ?_ _ | refine Acc.setCell ?_ ?_ _) | (refine leB ?_; omega)))
      clear hb
      go_wp2_with fail
      rw [rounds_succ]
      go_wp2_with fail
      refine (E.out _).mono ?_
      rintro e W2 ⟨rfl, hb⟩
      have Br : Blk W2 (w.heap.size) [.complex .f32 0 0, .complex .f32 0 0] := Blk.keep hb (by repeat' (first | (with_reducible first | assumption | refine Blk.drew ?_ | refine Blk.drewN ?_ _ | apply Blk.set | (refine Blk.new ?_; focus (first | rfl | (simp; done))) | refine Blk.alloc ?_ _ | refine Blk.other ?_ ?_ _) | exact eqL rfl | (refine neB ?_; omega)))
      have Bp : Blk W2 (w.heap.size + 1) [.complex .f32 (singleOf x1 x3) (singleOf x2 x3), .complex .f32 0 0] := Blk.keep hb (by repeat' (first | (with_reducible first | assumption | refine Blk.drew ?_ | refine Blk.drewN ?_ _ | apply Blk.set | (refine Blk.new ?_; focus (first | rfl | (simp; done))) | refine Blk.alloc ?_ _ | refine Blk.other ?_ ?_ _) | exact eqL rfl | (refine neB ?_; omega)))
      have cr := Br.cell
      have fr := Br.free
      have lr_W2 := Br.lt
      have cp := Bp.cell
      have fp := Bp.free
      have lp_W2 := Bp.lt
      have kaW2 : Acc w W2 := by
        refine Acc.call ?_ hb
        (repeat' (first | (with_reducible first | assumption | exact Acc.refl _ | refine Acc.drew ?_ | refine Acc.drewN ?_ _ | refine Acc.alloc ?_ _ | refine Acc.setCell ?_ ?_ _) | (refine leB ?_; omega)))
      clear hb
      go_wp2_with fail
      rw [rounds_succ]
      go_wp2_with fail
      refine bodyPost_ret (v := .tuple #[.agg #[.complex .f32 (singleOf x1 x3) (singleOf x2 x3), .complex .f32 (singleOf y1 y3) (singleOf y2 y3)], .nilIface]) (by simp [results, Tryd.results71, go_sem, *]) rfl ⟨fun _ => rfl, fun h => (by cases h), ?_⟩
      show Acc w _
      (repeat' (first | (with_reducible first | assumption | exact Acc.refl _ | refine Acc.drew ?_ | refine Acc.drewN ?_ _ | refine Acc.alloc ?_ _ | refine Acc.setCell ?_ ?_ _) | (refine leB ?_; omega)))
set_option maxHeartbeats 1000000 in
theorem told_single_ok (p q r s : Nat) (w : World) : Calls Tryd.prog 70 #[.agg #[.complex .f32 p q, .complex .f32 r s], .nilIface] w fun e w' => e = .returned (.tuple #[.agg #[.complex .f32 p q, .complex .f32 r s], .bool true]) ∧ Below w.heap.size w w' := by
  have hsc : ∀ (a : Addr) (k : FloatKind) (p q : Nat) (m : Mode) (w : World), (store a (.complex k p q) m).run Tryd.prog w = stored Tryd.prog w a (.complex k p q) m := fun a k p q m w => run_store Tryd.prog w a _ m rfl
  go_enter Tryd.func70, Tryd.ntmps70
  go_wp2_with fail
  refine (isNone_nil _).mono ?_
  rintro e W1 ⟨rfl, hb⟩
  have Ba : Blk W1 (w.heap.size) [.complex .f32 p q, .complex .f32 r s] := Blk.keep hb (by repeat' (first | (with_reducible first | assumption | refine Blk.drew ?_ | refine Blk.drewN ?_ _ | apply Blk.set | (refine Blk.new ?_; focus (first | rfl | (simp; done))) | refine Blk.alloc ?_ _ | refine Blk.other ?_ ?_ _) | exact eqL rfl | (refine neB ?_; omega)))
  have Br : Blk W1 (w.heap.size + 1) [.complex .f32 0 0, .complex .f32 0 0] := Blk.keep hb (by repeat' (first | (with_reducible first | assumption | refine Blk.drew ?_ | refine Blk.drewN ?_ _ | apply Blk.set | (refine Blk.new ?_; focus (first | rfl | (simp; done))) | refine Blk.alloc ?_ _ | refine Blk.other ?_ ?_ _) | exact eqL rfl | (refine neB ?_; omega)))
  have ca := Ba.cell
  have fa := Ba.free
  have la_W1 := Ba.lt
  have cr := Br.cell
  have fr := Br.free
  have lr_W1 := Br.lt
  have kaW1 : Acc w W1 := by
    refine Acc.call ?_ hb
    (repeat' (first | (with_reducible first | assumption | exact Acc.refl _ | refine Acc.drew ?_ | refine Acc.drewN ?_ _ | refine Acc.alloc ?_ _ | refine Acc.setCell ?_ ?_ _) | (refine leB ?_; omega)))
  clear hb
  go_wp2_with fail
  refine bodyPost_ret (v := .tuple #[.agg #[.complex .f32 p q, .complex .f32 r s], .bool true]) (by simp [results, Tryd.results70, go_sem, *]) rfl ⟨rfl, ?_⟩
  show Acc w _
  (repeat' (first | (with_reducible first | assumption | exact Acc.refl _ | refine Acc.drew ?_ | refine Acc.drewN ?_ _ | refine Acc.alloc ?_ _ | refine Acc.setCell ?_ ?_ _) | (refine leB ?_; omega)))
set_option maxHeartbeats 1000000 in
theorem told_single_err (p q r s : Nat) (t : ByteArray) (w : World) (hl : Laid w) : Calls Tryd.prog 70 #[.agg #[.complex .f32 p q, .complex .f32 r s], .iface 109 (.agg #[.string t])] w fun e w' => e = .returned (.tuple #[.agg #[.complex .f32 0 0, .complex .f32 0 0], .bool false]) ∧ Below w.heap.size w w' := by
  have HL := Lib.hid fun W (k : Acc w W) => hl.acc k
  clear hl
  have hsc : ∀ (a : Addr) (k : FloatKind) (p q : Nat) (m : Mode) (w : World), (store a (.complex k p q) m).run Tryd.prog w = stored Tryd.prog w a (.complex k p q) m := fun a k p q m w => run_store Tryd.prog w a _ m rfl
  go_enter Tryd.func70, Tryd.ntmps70
  go_wp2_with fail
  refine (isNone_hit t _ (HL.out _ (by repeat' (first | (with_reducible first | assumption | exact Acc.refl _ | refine Acc.drew ?_ | refine Acc.drewN ?_ _ | refine Acc.alloc ?_ _ | refine Acc.setCell ?_ ?_ _) | (refine leB ?_; omega))))).mono ?_
  rintro e W1 ⟨rfl, hb⟩
  have Ba : Blk W1 (w.heap.size) [.complex .f32 p q, .complex .f32 r s] := Blk.keep hb (by repeat' (first | (with_reducible first | assumption | refine Blk.drew ?_ | refine Blk.drewN ?_ _ | apply Blk.set | (refine Blk.new ?_; focus (first | rfl | (simp; done))) | refine Blk.alloc ?_ _ | refine Blk.other ?_ ?_ _) | exact eqL rfl | (refine neB ?_; omega)))
  have Br : Blk W1 (w.heap.size + 1) [.complex .f32 0 0, .complex .f32 0 0] := Blk.keep hb (by repeat' (first | (with_reducible first | assumption | refine Blk.drew ?_ | refine Blk.drewN ?_ _ | apply Blk.set | (refine Blk.new ?_; focus (first | rfl | (simp; done))) | refine Blk.alloc ?_ _ | refine Blk.other ?_ ?_ _) | exact eqL rfl | (refine neB ?_; omega)))
  have ca := Ba.cell
  have fa := Ba.free
  have la_W1 := Ba.lt
  have cr := Br.cell
  have fr := Br.free
  have lr_W1 := Br.lt
  have kaW1 : Acc w W1 := by
    refine Acc.call ?_ hb
    (repeat' (first | (with_reducible first | assumption | exact Acc.refl _ | refine Acc.drew ?_ | refine Acc.drewN ?_ _ | refine Acc.alloc ?_ _ | refine Acc.setCell ?_ ?_ _) | (refine leB ?_; omega)))
  clear hb
  go_wp2_with fail
  refine bodyPost_ret (v := .tuple #[.agg #[.complex .f32 0 0, .complex .f32 0 0], .bool false]) (by simp [results, Tryd.results70, go_sem, *]) rfl ⟨rfl, ?_⟩
  show Acc w _
  (repeat' (first | (with_reducible first | assumption | exact Acc.refl _ | refine Acc.drew ?_ | refine Acc.drewN ?_ _ | refine Acc.alloc ?_ _ | refine Acc.setCell ?_ ?_ _) | (refine leB ?_; omega)))
end Go.Proofs.YtbihlkienhbapaaDoor
