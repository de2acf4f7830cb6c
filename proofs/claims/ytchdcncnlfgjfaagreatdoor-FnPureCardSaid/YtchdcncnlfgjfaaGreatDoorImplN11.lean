/-
  The program's four numbers of a vector.
-/
import Derived.Test.YtchdcncnlfgjfaaGreatDoorImplN10
import Derived.Test.YtchdcncnlfgjfaaGreatDoorImplN3
namespace Go.Proofs.YtchdcncnlfgjfaaGreatDoor
open Go.ChangeShapes Go.WideShapes Go.ChangeAt Go.RowKit
set_option linter.unusedVariables false

theorem Acc.le {w W : World} (h : Acc w W) {D : Nat} (k : W.heap.size ≤ D) : w.heap.size ≤ D := Nat.le_trans h.size k
set_option maxHeartbeats 2000000 in
theorem vnumClo_0 (p : Nat) (x1 x2 x3 y1 y2 y3 : Int) (hx1 : i64B x1) (hx2 : i64B x2) (hx3 : i64B x3) (hy1 : i64B y1) (hy2 : i64B y2) (hy3 : i64B y3) (w : World) (Bp : Blk w p [.int .i64 x1, .int .i64 x2, .int .i64 x3, .int .i64 y1, .int .i64 y2, .int .i64 y3]) :
    Calls Tryz.prog 43 #[.int .i64 0, .pointer (some ⟨p, 0, none⟩)] w (Erred (jpowF x1 x2 x3 y1 y2 y3) w) := by
  have C := Lib.hid fun w => vpower_any x1 x2 x3 y1 y2 y3 hx1 hx2 hx3 hy1 hy2 hy3 w
  obtain ⟨o, E⟩ : ∃ o, jpowF x1 x2 x3 y1 y2 y3 = o := ⟨_, rfl⟩
  rw [E] at C ⊢
  clear E hx1 hx2 hx3 hy1 hy2 hy3
  have hmf : ∀ (fn : Fn) (first cap : Array Value) (w : World), (Instr.makeFunc fn first cap).run Tryz.prog w = .ok (.func fn first cap) w := fun _ _ _ _ => rfl
  have cp := Bp.cell
  have fp := Bp.free
  have lp_w := Bp.lt
  go_enter Tryz.func43, Tryz.ntmps43
  go_wp2_with fail
  refine (C.out _).mono ?_
  rintro e W1 ⟨h1, h2, hb⟩
  have Br : Blk W1 (w.heap.size) [.int .i64 0, .int .i64 0, .int .i64 0] := Blk.keep hb (by repeat' (first | (with_reducible first | assumption | refine Blk.drew ?_ | refine Blk.drewN ?_ _ | refine Blk.mapPut ?_ _ _ | apply Blk.set | (refine Blk.new ?_; focus (first | rfl | (simp; done))) | refine Blk.alloc ?_ _ | refine Blk.other ?_ ?_ _) | exact eqL rfl | (refine neB ?_; omega)))
  have cr := Br.cell
  have fr := Br.free
  have lr_W1 := Br.lt
  have kaW1 : Acc w W1 := by
    refine Acc.call ?_ hb
    (repeat' (first | (with_reducible first | assumption | exact Acc.refl _ | refine Acc.drew ?_ | refine Acc.drewN ?_ _ | refine Acc.alloc ?_ _ | refine Acc.setCell ?_ ?_ _ | refine Acc.mapPut ?_ ?_ _ _) | (refine leB ?_; omega)))
  clear hb
  cases o with
  | none =>
    obtain ⟨s, rfl⟩ := h2 rfl
    clear h1 h2
    go_wp2_with fail
    refine bodyPost_ret (v := .tuple #[.agg #[.int .i64 0, .int .i64 0, .int .i64 0], .iface 81 (.agg #[.string s])]) (by simp [results, Tryz.results43, go_sem, *]) rfl ⟨fun _ _ _ h => (by cases h), fun _ => ⟨_, rfl⟩, ?_⟩
    show Acc w _
    (repeat' (first | (with_reducible first | assumption | exact Acc.refl _ | refine Acc.drew ?_ | refine Acc.drewN ?_ _ | refine Acc.alloc ?_ _ | refine Acc.setCell ?_ ?_ _ | refine Acc.mapPut ?_ ?_ _ _) | (refine leB ?_; omega)))
  | some r =>
    obtain ⟨r1, r2, r3⟩ := r
    obtain rfl := h1 _ _ _ rfl
    clear h1 h2
    go_wp2_with fail
    refine bodyPost_ret (v := .tuple #[.agg #[.int .i64 r1, .int .i64 r2, .int .i64 r3], .nilIface]) (by simp [results, Tryz.results43, go_sem, *]) rfl ⟨fun _ _ _ h => (by cases h; rfl), fun h => (by cases h), ?_⟩
    show Acc w _
    (repeat' (first | (with_reducible first | assumption | exact Acc.refl _ | refine Acc.drew ?_ | refine Acc.drewN ?_ _ | refine Acc.alloc ?_ _ | refine Acc.setCell ?_ ?_ _ | refine Acc.mapPut ?_ ?_ _ _) | (refine leB ?_; omega)))
set_option maxHeartbeats 2000000 in
theorem vnumClo_1 (p : Nat) (x1 x2 x3 y1 y2 y3 : Int) (hx1 : i64B x1) (hx2 : i64B x2) (hx3 : i64B x3) (hy1 : i64B y1) (hy2 : i64B y2) (hy3 : i64B y3) (w : World) (Bp : Blk w p [.int .i64 x1, .int .i64 x2, .int .i64 x3, .int .i64 y1, .int .i64 y2, .int .i64 y3]) :
    Calls Tryz.prog 43 #[.int .i64 1, .pointer (some ⟨p, 0, none⟩)] w (Erred (lessO (powerF x1 x2 x3) (powerF y1 y2 y3)) w) := by
  have C := Lib.hid fun w => vpowerAlong_any x1 x2 x3 y1 y2 y3 hx1 hx2 hx3 hy1 hy2 hy3 w
  obtain ⟨o, E⟩ : ∃ o, lessO (powerF x1 x2 x3) (powerF y1 y2 y3) = o := ⟨_, rfl⟩
  rw [E] at C ⊢
  clear E hx1 hx2 hx3 hy1 hy2 hy3
  have hmf : ∀ (fn : Fn) (first cap : Array Value) (w : World), (Instr.makeFunc fn first cap).run Tryz.prog w = .ok (.func fn first cap) w := fun _ _ _ _ => rfl
  have cp := Bp.cell
  have fp := Bp.free
  have lp_w := Bp.lt
  go_enter Tryz.func43, Tryz.ntmps43
  go_wp2_with fail
  refine (C.out _).mono ?_
  rintro e W1 ⟨h1, h2, hb⟩
  have Br : Blk W1 (w.heap.size) [.int .i64 0, .int .i64 0, .int .i64 0] := Blk.keep hb (by repeat' (first | (with_reducible first | assumption | refine Blk.drew ?_ | refine Blk.drewN ?_ _ | refine Blk.mapPut ?_ _ _ | apply Blk.set | (refine Blk.new ?_; focus (first | rfl | (simp; done))) | refine Blk.alloc ?_ _ | refine Blk.other ?_ ?_ _) | exact eqL rfl | (refine neB ?_; omega)))
  have cr := Br.cell
  have fr := Br.free
  have lr_W1 := Br.lt
  have kaW1 : Acc w W1 := by
    refine Acc.call ?_ hb
    (repeat' (first | (with_reducible first | assumption | exact Acc.refl _ | refine Acc.drew ?_ | refine Acc.drewN ?_ _ | refine Acc.alloc ?_ _ | refine Acc.setCell ?_ ?_ _ | refine Acc.mapPut ?_ ?_ _ _) | (refine leB ?_; omega)))
  clear hb
  cases o with
  | none =>
    obtain ⟨s, rfl⟩ := h2 rfl
    clear h1 h2
    go_wp2_with fail
    refine bodyPost_ret (v := .tuple #[.agg #[.int .i64 0, .int .i64 0, .int .i64 0], .iface 81 (.agg #[.string s])]) (by simp [results, Tryz.results43, go_sem, *]) rfl ⟨fun _ _ _ h => (by cases h), fun _ => ⟨_, rfl⟩, ?_⟩
    show Acc w _
    (repeat' (first | (with_reducible first | assumption | exact Acc.refl _ | refine Acc.drew ?_ | refine Acc.drewN ?_ _ | refine Acc.alloc ?_ _ | refine Acc.setCell ?_ ?_ _ | refine Acc.mapPut ?_ ?_ _ _) | (refine leB ?_; omega)))
  | some r =>
    obtain ⟨r1, r2, r3⟩ := r
    obtain rfl := h1 _ _ _ rfl
    clear h1 h2
    go_wp2_with fail
    refine bodyPost_ret (v := .tuple #[.agg #[.int .i64 r1, .int .i64 r2, .int .i64 r3], .nilIface]) (by simp [results, Tryz.results43, go_sem, *]) rfl ⟨fun _ _ _ h => (by cases h; rfl), fun h => (by cases h), ?_⟩
    show Acc w _
    (repeat' (first | (with_reducible first | assumption | exact Acc.refl _ | refine Acc.drew ?_ | refine Acc.drewN ?_ _ | refine Acc.alloc ?_ _ | refine Acc.setCell ?_ ?_ _ | refine Acc.mapPut ?_ ?_ _ _) | (refine leB ?_; omega)))
set_option maxHeartbeats 2000000 in
theorem vnumClo_2 (p : Nat) (x1 x2 x3 y1 y2 y3 : Int) (hx1 : i64B x1) (hx2 : i64B x2) (hx3 : i64B x3) (hy1 : i64B y1) (hy2 : i64B y2) (hy3 : i64B y3) (w : World) (Bp : Blk w p [.int .i64 x1, .int .i64 x2, .int .i64 x3, .int .i64 y1, .int .i64 y2, .int .i64 y3]) :
    Calls Tryz.prog 43 #[.int .i64 2, .pointer (some ⟨p, 0, none⟩)] w (Erred (reO (crossO x1 x2 x3 y1 y2 y3)) w) := by
  have C := Lib.hid fun w => twice_realPart x1 x2 x3 y1 y2 y3 hx1 hx2 hx3 hy1 hy2 hy3 w
  obtain ⟨o, E⟩ : ∃ o, reO (crossO x1 x2 x3 y1 y2 y3) = o := ⟨_, rfl⟩
  rw [E] at C ⊢
  clear E hx1 hx2 hx3 hy1 hy2 hy3
  have hmf : ∀ (fn : Fn) (first cap : Array Value) (w : World), (Instr.makeFunc fn first cap).run Tryz.prog w = .ok (.func fn first cap) w := fun _ _ _ _ => rfl
  have cp := Bp.cell
  have fp := Bp.free
  have lp_w := Bp.lt
  go_enter Tryz.func43, Tryz.ntmps43
  go_wp2_with fail
  refine (C.out _).mono ?_
  rintro e W1 ⟨h1, h2, hb⟩
  have Br : Blk W1 (w.heap.size) [.int .i64 0, .int .i64 0, .int .i64 0] := Blk.keep hb (by repeat' (first | (with_reducible first | assumption | refine Blk.drew ?_ | refine Blk.drewN ?_ _ | refine Blk.mapPut ?_ _ _ | apply Blk.set | (refine Blk.new ?_; focus (first | rfl | (simp; done))) | refine Blk.alloc ?_ _ | refine Blk.other ?_ ?_ _) | exact eqL rfl | (refine neB ?_; omega)))
  have cr := Br.cell
  have fr := Br.free
  have lr_W1 := Br.lt
  have kaW1 : Acc w W1 := by
    refine Acc.call ?_ hb
    (repeat' (first | (with_reducible first | assumption | exact Acc.refl _ | refine Acc.drew ?_ | refine Acc.drewN ?_ _ | refine Acc.alloc ?_ _ | refine Acc.setCell ?_ ?_ _ | refine Acc.mapPut ?_ ?_ _ _) | (refine leB ?_; omega)))
  clear hb
  cases o with
  | none =>
    obtain ⟨s, rfl⟩ := h2 rfl
    clear h1 h2
    go_wp2_with fail
    refine bodyPost_ret (v := .tuple #[.agg #[.int .i64 0, .int .i64 0, .int .i64 0], .iface 81 (.agg #[.string s])]) (by simp [results, Tryz.results43, go_sem, *]) rfl ⟨fun _ _ _ h => (by cases h), fun _ => ⟨_, rfl⟩, ?_⟩
    show Acc w _
    (repeat' (first | (with_reducible first | assumption | exact Acc.refl _ | refine Acc.drew ?_ | refine Acc.drewN ?_ _ | refine Acc.alloc ?_ _ | refine Acc.setCell ?_ ?_ _ | refine Acc.mapPut ?_ ?_ _ _) | (refine leB ?_; omega)))
  | some r =>
    obtain ⟨r1, r2, r3⟩ := r
    obtain rfl := h1 _ _ _ rfl
    clear h1 h2
    go_wp2_with fail
    refine bodyPost_ret (v := .tuple #[.agg #[.int .i64 r1, .int .i64 r2, .int .i64 r3], .nilIface]) (by simp [results, Tryz.results43, go_sem, *]) rfl ⟨fun _ _ _ h => (by cases h; rfl), fun h => (by cases h), ?_⟩
    show Acc w _
    (repeat' (first | (with_reducible first | assumption | exact Acc.refl _ | refine Acc.drew ?_ | refine Acc.drewN ?_ _ | refine Acc.alloc ?_ _ | refine Acc.setCell ?_ ?_ _ | refine Acc.mapPut ?_ ?_ _ _) | (refine leB ?_; omega)))
set_option maxHeartbeats 2000000 in
theorem vnumClo_3 (p : Nat) (x1 x2 x3 y1 y2 y3 : Int) (hx1 : i64B x1) (hx2 : i64B x2) (hx3 : i64B x3) (hy1 : i64B y1) (hy2 : i64B y2) (hy3 : i64B y3) (w : World) (Bp : Blk w p [.int .i64 x1, .int .i64 x2, .int .i64 x3, .int .i64 y1, .int .i64 y2, .int .i64 y3]) :
    Calls Tryz.prog 43 #[.int .i64 3, .pointer (some ⟨p, 0, none⟩)] w (Erred (imO (crossO x1 x2 x3 y1 y2 y3)) w) := by
  have C := Lib.hid fun w => twice_imaginaryPart x1 x2 x3 y1 y2 y3 hx1 hx2 hx3 hy1 hy2 hy3 w
  obtain ⟨o, E⟩ : ∃ o, imO (crossO x1 x2 x3 y1 y2 y3) = o := ⟨_, rfl⟩
  rw [E] at C ⊢
  clear E hx1 hx2 hx3 hy1 hy2 hy3
  have hmf : ∀ (fn : Fn) (first cap : Array Value) (w : World), (Instr.makeFunc fn first cap).run Tryz.prog w = .ok (.func fn first cap) w := fun _ _ _ _ => rfl
  have cp := Bp.cell
  have fp := Bp.free
  have lp_w := Bp.lt
  go_enter Tryz.func43, Tryz.ntmps43
  go_wp2_with fail
  refine (C.out _).mono ?_
  rintro e W1 ⟨h1, h2, hb⟩
  have Br : Blk W1 (w.heap.size) [.int .i64 0, .int .i64 0, .int .i64 0] := Blk.keep hb (by repeat' (first | (with_reducible first | assumption | refine Blk.drew ?_ | refine Blk.drewN ?_ _ | refine Blk.mapPut ?_ _ _ | apply Blk.set | (refine Blk.new ?_; focus (first | rfl | (simp; done))) | refine Blk.alloc ?_ _ | refine Blk.other ?_ ?_ _) | exact eqL rfl | (refine neB ?_; omega)))
  have cr := Br.cell
  have fr := Br.free
  have lr_W1 := Br.lt
  have kaW1 : Acc w W1 := by
    refine Acc.call ?_ hb
    (repeat' (first | (with_reducible first | assumption | exact Acc.refl _ | refine Acc.drew ?_ | refine Acc.drewN ?_ _ | refine Acc.alloc ?_ _ | refine Acc.setCell ?_ ?_ _ | refine Acc.mapPut ?_ ?_ _ _) | (refine leB ?_; omega)))
  clear hb
  cases o with
  | none =>
    obtain ⟨s, rfl⟩ := h2 rfl
    clear h1 h2
    go_wp2_with fail
    refine bodyPost_ret (v := .tuple #[.agg #[.int .i64 0, .int .i64 0, .int .i64 0], .iface 81 (.agg #[.string s])]) (by simp [results, Tryz.results43, go_sem, *]) rfl ⟨fun _ _ _ h => (by cases h), fun _ => ⟨_, rfl⟩, ?_⟩
    show Acc w _
    (repeat' (first | (with_reducible first | assumption | exact Acc.refl _ | refine Acc.drew ?_ | refine Acc.drewN ?_ _ | refine Acc.alloc ?_ _ | refine Acc.setCell ?_ ?_ _ | refine Acc.mapPut ?_ ?_ _ _) | (refine leB ?_; omega)))
  | some r =>
    obtain ⟨r1, r2, r3⟩ := r
    obtain rfl := h1 _ _ _ rfl
    clear h1 h2
    go_wp2_with fail
    refine bodyPost_ret (v := .tuple #[.agg #[.int .i64 r1, .int .i64 r2, .int .i64 r3], .nilIface]) (by simp [results, Tryz.results43, go_sem, *]) rfl ⟨fun _ _ _ h => (by cases h; rfl), fun h => (by cases h), ?_⟩
    show Acc w _
    (repeat' (first | (with_reducible first | assumption | exact Acc.refl _ | refine Acc.drew ?_ | refine Acc.drewN ?_ _ | refine Acc.alloc ?_ _ | refine Acc.setCell ?_ ?_ _ | refine Acc.mapPut ?_ ?_ _ _) | (refine leB ?_; omega)))
set_option maxHeartbeats 4000000 in
theorem vnumbers_any (x1 x2 x3 y1 y2 y3 : Int) (hx1 : i64B x1) (hx2 : i64B x2) (hx3 : i64B x3) (hy1 : i64B y1) (hy2 : i64B y2) (hy3 : i64B y3) (w : World) : Calls Tryz.prog 21 #[.agg #[.int .i64 x1, .int .i64 x2, .int .i64 x3, .int .i64 y1, .int .i64 y2, .int .i64 y3]] w (ErredM (sofF x1 x2 x3 y1 y2 y3) w) := by
  rw [show sofF x1 x2 x3 y1 y2 y3 = quadO (jpowF x1 x2 x3 y1 y2 y3) (lessO (powerF x1 x2 x3) (powerF y1 y2 y3)) (reO (crossO x1 x2 x3 y1 y2 y3)) (imO (crossO x1 x2 x3 y1 y2 y3)) from rfl]
  obtain ⟨oq, E⟩ : ∃ o, quadO (jpowF x1 x2 x3 y1 y2 y3) (lessO (powerF x1 x2 x3) (powerF y1 y2 y3)) (reO (crossO x1 x2 x3 y1 y2 y3)) (imO (crossO x1 x2 x3 y1 y2 y3)) = o := ⟨_, rfl⟩
  rw [E]
  have HE := Lib.hid E
  clear E
  have hmf : ∀ (fn : Fn) (first cap : Array Value) (w : World), (Instr.makeFunc fn first cap).run Tryz.prog w = .ok (.func fn first cap) w := fun _ _ _ _ => rfl
  go_enter Tryz.func21, Tryz.ntmps21
  go_wp2_with fail
  refine (eachKind_numbers (.pointer (some ⟨w.heap.size, 0, none⟩)) _ _ _ _ _ (fun W k => vnumClo_0 _ x1 x2 x3 y1 y2 y3 hx1 hx2 hx3 hy1 hy2 hy3 W (Blk.keep k (by repeat' (first | (with_reducible first | assumption | refine Blk.drew ?_ | refine Blk.drewN ?_ _ | refine Blk.mapPut ?_ _ _ | apply Blk.set | (refine Blk.new ?_; focus (first | rfl | (simp; done))) | refine Blk.alloc ?_ _ | refine Blk.other ?_ ?_ _) | exact eqL rfl | (refine neB ?_; omega))))) (fun W k => vnumClo_1 _ x1 x2 x3 y1 y2 y3 hx1 hx2 hx3 hy1 hy2 hy3 W (Blk.keep k (by repeat' (first | (with_reducible first | assumption | refine Blk.drew ?_ | refine Blk.drewN ?_ _ | refine Blk.mapPut ?_ _ _ | apply Blk.set | (refine Blk.new ?_; focus (first | rfl | (simp; done))) | refine Blk.alloc ?_ _ | refine Blk.other ?_ ?_ _) | exact eqL rfl | (refine neB ?_; omega))))) (fun W k => vnumClo_2 _ x1 x2 x3 y1 y2 y3 hx1 hx2 hx3 hy1 hy2 hy3 W (Blk.keep k (by repeat' (first | (with_reducible first | assumption | refine Blk.drew ?_ | refine Blk.drewN ?_ _ | refine Blk.mapPut ?_ _ _ | apply Blk.set | (refine Blk.new ?_; focus (first | rfl | (simp; done))) | refine Blk.alloc ?_ _ | refine Blk.other ?_ ?_ _) | exact eqL rfl | (refine neB ?_; omega))))) (fun W k => vnumClo_3 _ x1 x2 x3 y1 y2 y3 hx1 hx2 hx3 hy1 hy2 hy3 W (Blk.keep k (by repeat' (first | (with_reducible first | assumption | refine Blk.drew ?_ | refine Blk.drewN ?_ _ | refine Blk.mapPut ?_ _ _ | apply Blk.set | (refine Blk.new ?_; focus (first | rfl | (simp; done))) | refine Blk.alloc ?_ _ | refine Blk.other ?_ ?_ _) | exact eqL rfl | (refine neB ?_; omega)))))).mono ?_
  rintro e W1 ⟨h1, h2, hb⟩
  have Bp : Blk W1 (w.heap.size) [.int .i64 x1, .int .i64 x2, .int .i64 x3, .int .i64 y1, .int .i64 y2, .int .i64 y3] := Blk.keep hb (by repeat' (first | (with_reducible first | assumption | refine Blk.drew ?_ | refine Blk.drewN ?_ _ | refine Blk.mapPut ?_ _ _ | apply Blk.set | (refine Blk.new ?_; focus (first | rfl | (simp; done))) | refine Blk.alloc ?_ _ | refine Blk.other ?_ ?_ _) | exact eqL rfl | (refine neB ?_; omega)))
  have cp := Bp.cell
  have fp := Bp.free
  have lp_W1 := Bp.lt
  have kaW1 : Acc w W1 := by
    refine Acc.call ?_ hb
    (repeat' (first | (with_reducible first | assumption | exact Acc.refl _ | refine Acc.drew ?_ | refine Acc.drewN ?_ _ | refine Acc.alloc ?_ _ | refine Acc.setCell ?_ ?_ _ | refine Acc.mapPut ?_ ?_ _ _) | (refine leB ?_; omega)))
  clear hb
  rw [HE.out] at h1 h2
  clear HE
  cases oq with
  | none =>
    obtain ⟨s, rfl⟩ := h2 rfl
    clear h1 h2
    go_wp2_with fail
    go_ret2
    refine ⟨fun _ _ _ _ _ _ _ _ _ _ _ _ h => (by cases h), fun _ => ⟨_, rfl⟩, ?_⟩
    show Acc w _
    (repeat' (first | (with_reducible first | assumption | exact Acc.refl _ | refine Acc.drew ?_ | refine Acc.drewN ?_ _ | refine Acc.alloc ?_ _ | refine Acc.setCell ?_ ?_ _ | refine Acc.mapPut ?_ ?_ _ _) | (refine leB ?_; omega)))
  | some v =>
    obtain ⟨⟨u1, u2, u3⟩, ⟨v1, v2, v3⟩, ⟨x1, x2, x3⟩, y1, y2, y3⟩ := v
    obtain ⟨D, hD, rfl, MD⟩ := h1 _ _ _ _ _ _ _ _ _ _ _ _ rfl
    clear h1 h2
    go_wp2_with fail
    go_ret2
    refine ⟨fun _ _ _ _ _ _ _ _ _ _ _ _ h => ⟨D, Acc.le (by repeat' (first | (with_reducible first | assumption | exact Acc.refl _ | refine Acc.drew ?_ | refine Acc.drewN ?_ _ | refine Acc.alloc ?_ _ | refine Acc.setCell ?_ ?_ _ | refine Acc.mapPut ?_ ?_ _ _) | (refine leB ?_; omega))) hD, rfl, ?_⟩, fun h => (by cases h), ?_⟩
    · obtain ⟨⟩ := h
      exact MD
    show Acc w _
    (repeat' (first | (with_reducible first | assumption | exact Acc.refl _ | refine Acc.drew ?_ | refine Acc.drewN ?_ _ | refine Acc.alloc ?_ _ | refine Acc.setCell ?_ ?_ _ | refine Acc.mapPut ?_ ?_ _ _) | (refine leB ?_; omega)))
end Go.Proofs.YtchdcncnlfgjfaaGreatDoor
