/-
  The program's fibres: directions and sections asked.
-/
import Derived.Test.YtkdkeacfifjjoabGreatDoorBFib
import Derived.Test.YtkdkeacfifjjoabGreatDoorBImplF
import Derived.Test.YtkdkeacfifjjoabGreatDoorBMath
import Derived.Test.YtkdkeacfifjjoabGreatDoorImplM6b
namespace Go.Proofs.YtkdkeacfifjjoabGreatDoor
open Go.ChangeShapes Go.WideShapes Go.ChangeAt Go.RowKit
set_option linter.unusedVariables false

set_option linter.unusedSimpArgs false
theorem Chk.yes {b : Bool} {w w' : World} (h : b = true) (hb : Below w.heap.size w w') : Checked b w (.returned .nilIface) w' := ⟨fun _ => rfl, (fun k => by rw [h] at k; cases k), hb⟩
theorem Chk.no {b : Bool} {w w' : World} {s : ByteArray} (h : b = false) (hb : Below w.heap.size w w') : Checked b w (.returned (.iface 142 (.agg #[.string s]))) w' := ⟨(fun k => by rw [h] at k; cases k), fun _ => ⟨s, rfl⟩, hb⟩
/-- As asked, whatever the flag. -/
theorem Chk.out {b : Bool} {w w' : World} {e : Ending} (h : Checked b w e w') : (b = true ∧ e = .returned .nilIface ∨ ∃ s, b = false ∧ e = .returned (.iface 142 (.agg #[.string s]))) ∧ Below w.heap.size w w' := by
  obtain ⟨h1, h2, h3⟩ := h
  refine ⟨?_, h3⟩
  cases b with
  | true => exact .inl ⟨rfl, h1 rfl⟩
  | false =>
    obtain ⟨s, hs⟩ := h2 rfl
    exact .inr ⟨s, rfl, hs⟩
theorem inB_dec (x a b : Int) : inB x a b = decide (a ≤ x ∧ x ≤ b) := by
  unfold inB
  by_cases h1 : a ≤ x <;> by_cases h2 : x ≤ b <;> simp [h1, h2]
theorem dirB_dec (p q : Int) : dirB p q = decide (-100 ≤ p ∧ p ≤ 100 ∧ -100 ≤ q ∧ q ≤ 100 ∧ ¬ (p = 0 ∧ q = 0)) := by
  unfold dirB
  rw [inB_dec, inB_dec]
  by_cases h1 : -100 ≤ p ∧ p ≤ 100 <;> by_cases h2 : -100 ≤ q ∧ q ≤ 100 <;> by_cases h3 : p = 0 <;> by_cases h4 : q = 0 <;> simp [h1, h2, h3, h4] <;> omega
set_option maxHeartbeats 4000000 in
theorem checkDirB_any (p q : Int) (w : World) : Calls Tryz.prog 141 #[.int .i64 p, .int .i64 q] w (Checked (dirB p q) w) := by
  obtain ⟨v, hv⟩ : ∃ v, dirB p q = v := ⟨_, rfl⟩
  have HD := Lib.hid (hv.symm.trans (dirB_dec p q))
  rw [hv]
  clear hv
  go_enter Tryz.func141, Tryz.ntmps141
  go_wp2_with fail
  all_goals
    first
    | (go_ret; exact Chk.yes (HD.out.trans (decide_eq_true (by omega))) (Below.refl _ _))
    | (go_ret; exact Chk.no (HD.out.trans (decide_eq_false (by omega))) (Below.refl _ _))
    | (go_ret; exact Chk.yes (HD.out.trans (decide_eq_true (by simp only [beq_eq_false_iff_ne, ne_eq, beq_iff_eq] at *; omega))) (Below.refl _ _))
    | (go_ret; exact Chk.no (HD.out.trans (decide_eq_false (by simp only [beq_eq_false_iff_ne, ne_eq, beq_iff_eq] at *; omega))) (Below.refl _ _))
theorem checkPhB_any (k : Int) (w : World) : Calls Tryz.prog 152 #[.int .i64 k] w (Checked (inB k 0 3) w) := by
  rw [inB_dec]
  by_cases h : 0 ≤ k ∧ k ≤ 3
  · exact (chkPh_yes k h.1 h.2 w).mono fun e w' g => by obtain ⟨rfl, hb⟩ := g; exact Chk.yes (decide_eq_true h) hb
  · exact (chkPh_no k (by omega) w).mono fun e w' g => by obtain ⟨⟨s, rfl⟩, hb⟩ := g; exact Chk.no (decide_eq_false h) hb
set_option maxHeartbeats 4000000 in
theorem plaCheckB_any (p q k : Int) (w : World) : Calls Tryz.prog 130 #[.agg #[.int .i64 p, .int .i64 q, .int .i64 k]] w (Checked (dirB p q && inB k 0 3) w) := by
  obtain ⟨u, hu⟩ : ∃ u, inB k 0 3 = u := ⟨_, rfl⟩
  have TP := Lib.hid fun w => (hu ▸ checkPhB_any k w : Calls Tryz.prog 152 #[.int .i64 k] w (Checked u w))
  rw [hu]
  clear hu
  go_enter Tryz.func130, Tryz.ntmps130
  go_wp2_with fail
  refine (checkDirB_any p q _).mono ?_
  rintro e W1 h
  obtain ⟨h, hb⟩ := Chk.out h
  have Ba : Blk W1 (w.heap.size) [.int .i64 p, .int .i64 q, .int .i64 k] := Blk.keep hb (by repeat' (first | (with_reducible first | assumption | refine Blk.drew ?_ | refine Blk.drewN ?_ _ | apply Blk.set | (refine Blk.new ?_; focus (first | rfl | (simp; done))) | refine Blk.alloc ?_ _ | refine Blk.other ?_ ?_ _) | exact eqL rfl | (refine neB ?_; omega)))
  have ca := Ba.cell
  have fa := Ba.free
  have la_W1 := Ba.lt
  have kaW1 : Acc w W1 := by
    refine Acc.call ?_ hb
    (repeat' (first | (with_reducible first | assumption | exact Acc.refl _ | refine Acc.drew ?_ | refine Acc.drewN ?_ _ | refine Acc.alloc ?_ _ | refine Acc.setCell ?_ ?_ _) | (refine leB ?_; omega)))
  clear hb
  rcases h with ⟨hy, rfl⟩ | ⟨s, hn, rfl⟩
  · skip
    go_wp2_with fail
    refine (TP.out _).mono ?_
    rintro e W2 h
    obtain ⟨h, hb⟩ := Chk.out h
    have kaW2 : Acc w W2 := by
      refine Acc.call ?_ hb
      (repeat' (first | (with_reducible first | assumption | exact Acc.refl _ | refine Acc.drew ?_ | refine Acc.drewN ?_ _ | refine Acc.alloc ?_ _ | refine Acc.setCell ?_ ?_ _) | (refine leB ?_; omega)))
    clear hb
    rcases h with ⟨hz, rfl⟩ | ⟨s, hz, rfl⟩
    · skip
      go_wp2_with fail
      go_ret
      refine Chk.yes (by rw [hy, hz]; rfl) ?_
      show Acc w _
      (repeat' (first | (with_reducible first | assumption | exact Acc.refl _ | refine Acc.drew ?_ | refine Acc.drewN ?_ _ | refine Acc.alloc ?_ _ | refine Acc.setCell ?_ ?_ _) | (refine leB ?_; omega)))
    · skip
      go_wp2_with fail
      go_ret
      refine Chk.no (by rw [hy, hz]; rfl) ?_
      show Acc w _
      (repeat' (first | (with_reducible first | assumption | exact Acc.refl _ | refine Acc.drew ?_ | refine Acc.drewN ?_ _ | refine Acc.alloc ?_ _ | refine Acc.setCell ?_ ?_ _) | (refine leB ?_; omega)))
  · skip
    go_wp2_with fail
    go_ret
    refine Chk.no (by rw [hn]; rfl) ?_
    show Acc w _
    (repeat' (first | (with_reducible first | assumption | exact Acc.refl _ | refine Acc.drew ?_ | refine Acc.drewN ?_ _ | refine Acc.alloc ?_ _ | refine Acc.setCell ?_ ?_ _) | (refine leB ?_; omega)))
set_option maxHeartbeats 4000000 in
theorem secCheck_any (p q k t : Int) (w : World) : Calls Tryz.prog 99 #[.agg #[.int .i64 p, .int .i64 q, .int .i64 k, .int .i64 t]] w (Checked (okS ((p, q, k), t)) w) := by
  by_cases h1 : 0 ≤ t ∧ t ≤ 50
  · have E : okS ((p, q, k), t) = (dirB p q && inB k 0 3) := by
      unfold okS
      show (dirB p q && inB k 0 3 && inB t 0 50) = _
      rw [inB_dec t, decide_eq_true h1, Bool.and_true]
    rw [E]
    have t1 : ¬ t < 0 := by omega
    have t2 : ¬ 50 < t := by omega
    clear E h1
    go_enter Tryz.func99, Tryz.ntmps99
    go_wp2_with fail
    refine (plaCheckB_any p q k _).mono ?_
    rintro e W1 h
    obtain ⟨h, hb⟩ := Chk.out h
    have Ba : Blk W1 (w.heap.size) [.int .i64 p, .int .i64 q, .int .i64 k, .int .i64 t] := Blk.keep hb (by repeat' (first | (with_reducible first | assumption | refine Blk.drew ?_ | refine Blk.drewN ?_ _ | apply Blk.set | (refine Blk.new ?_; focus (first | rfl | (simp; done))) | refine Blk.alloc ?_ _ | refine Blk.other ?_ ?_ _) | exact eqL rfl | (refine neB ?_; omega)))
    have ca := Ba.cell
    have fa := Ba.free
    have la_W1 := Ba.lt
    have kaW1 : Acc w W1 := by
      refine Acc.call ?_ hb
      (repeat' (first | (with_reducible first | assumption | exact Acc.refl _ | refine Acc.drew ?_ | refine Acc.drewN ?_ _ | refine Acc.alloc ?_ _ | refine Acc.setCell ?_ ?_ _) | (refine leB ?_; omega)))
    clear hb
    rcases h with ⟨hy, rfl⟩ | ⟨s, hn, rfl⟩
    · skip
      go_wp2_with fail
      go_ret
      refine Chk.yes hy ?_
      show Acc w _
      (repeat' (first | (with_reducible first | assumption | exact Acc.refl _ | refine Acc.drew ?_ | refine Acc.drewN ?_ _ | refine Acc.alloc ?_ _ | refine Acc.setCell ?_ ?_ _) | (refine leB ?_; omega)))
    · skip
      go_wp2_with fail
      go_ret
      refine Chk.no hn ?_
      show Acc w _
      (repeat' (first | (with_reducible first | assumption | exact Acc.refl _ | refine Acc.drew ?_ | refine Acc.drewN ?_ _ | refine Acc.alloc ?_ _ | refine Acc.setCell ?_ ?_ _) | (refine leB ?_; omega)))
  · have E : okS ((p, q, k), t) = false := okS_no3 (by rw [inB_dec]; exact decide_eq_false h1)
    rw [E]
    clear E
    by_cases t1 : t < 0
    · clear h1
      go_enter Tryz.func99, Tryz.ntmps99
      go_wp2_with fail
      go_ret
      refine Chk.no rfl ?_
      show Acc w _
      (repeat' (first | (with_reducible first | assumption | exact Acc.refl _ | refine Acc.drew ?_ | refine Acc.drewN ?_ _ | refine Acc.alloc ?_ _ | refine Acc.setCell ?_ ?_ _) | (refine leB ?_; omega)))
    · have t2 : 50 < t := by omega
      clear h1
      go_enter Tryz.func99, Tryz.ntmps99
      go_wp2_with fail
      go_ret
      refine Chk.no rfl ?_
      show Acc w _
      (repeat' (first | (with_reducible first | assumption | exact Acc.refl _ | refine Acc.drew ?_ | refine Acc.drewN ?_ _ | refine Acc.alloc ?_ _ | refine Acc.setCell ?_ ?_ _) | (refine leB ?_; omega)))
end Go.Proofs.YtkdkeacfifjjoabGreatDoor
