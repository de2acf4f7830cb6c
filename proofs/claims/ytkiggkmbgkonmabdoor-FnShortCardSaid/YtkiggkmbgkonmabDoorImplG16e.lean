/-
  The program: a section joined with the same plate.
-/
import Derived.Test.YtkiggkmbgkonmabDoorImplG16
namespace Go.Proofs.YtkiggkmbgkonmabDoor
open Go.ChangeShapes Go.WideShapes Go.ChangeAt Go.RowKit
set_option linter.unusedVariables false

set_option linter.unusedSimpArgs false
set_option maxRecDepth 100000 in
set_option maxHeartbeats 32000000 in
theorem joined_eq (n₀ b b1 : Nat) (n1 n2 n3 t u : Int) (q2 : Option Addr) (rest : List L4) (hs : okS ((n1, n2, n3), t) = true) (hu : 0 ≤ u ∧ u ≤ 50)  (w : World) (hb0 : n₀ ≤ b1) (hb1 : b1 < b) (Bb : Blk w b [.int .i64 n1, .int .i64 n2, .int .i64 n3, .int .i64 t, .pointer (some ⟨b1, 0, none⟩)]) (Br : Blk w b1 [.int .i64 n1, .int .i64 n2, .int .i64 n3, .int .i64 u, .pointer q2]) (hf : Fib n₀ b1 w q2 rest) : Calls Tryd.prog 51 #[.pointer (some ⟨b, 0, none⟩)] w (JoinOut n₀ b (putE (((n1, n2, n3), u) :: rest) ((n1, n2, n3), t)) w) := by
  obtain ⟨-, hk, t0, t1⟩ := okS_out hs
  obtain ⟨u0, u1⟩ := hu
  have HF := Lib.hid hf
  clear hf
  have hbw : b < w.heap.size := Bb.lt
  clear hs
  rcases pha_in hk with rfl | rfl | rfl | rfl
  · skip
    have cb := Bb.cell
    have fb := Bb.free
    have lb_w := Bb.lt
    have cr := Br.cell
    have fr := Br.free
    have lr_w := Br.lt
    clear hk
    go_enter Tryd.func51, Tryd.ntmps51
    have TP := Lib.hid fun w => hasPlate_any n1 n2 0 t n1 n2 0 u true (decide_eq_true rfl) w
    go_upto_region 1 with fail
    go_region_held3 (fun w' => (∀ k, w'.cell? ⟨b, k, none⟩ = [.int .i64 n1, .int .i64 n2, .int .i64 0, .int .i64 t, .pointer (some ⟨b1, 0, none⟩)][k]?) ∧ (∀ k, w'.cell? ⟨b1, k, none⟩ = [.int .i64 n1, .int .i64 n2, .int .i64 0, .int .i64 u, .pointer q2][k]?))
      (((try dsimp only); (refine ⟨Blk.cell ?_, Blk.cell ?_⟩ <;> (repeat' (first | (with_reducible first | assumption | refine Blk.drew ?_ | refine Blk.drewN ?_ _ | apply Blk.set | (refine Blk.new ?_; focus (first | rfl | (simp; done))) | refine Blk.alloc ?_ _ | refine Blk.other ?_ ?_ _) | exact eqL rfl | (refine neB ?_; omega))))))
      (first
        | (go_at_call 65; refine (TP.out _).mono ?_; rintro e W8 ⟨rfl, hb⟩; have Bb : Blk W8 (b) [.int .i64 n1, .int .i64 n2, .int .i64 0, .int .i64 t, .pointer (some ⟨b1, 0, none⟩)] := Blk.keep hb (by repeat' (first | (with_reducible first | assumption | refine Blk.drew ?_ | refine Blk.drewN ?_ _ | apply Blk.set | (refine Blk.new ?_; focus (first | rfl | (simp; done))) | refine Blk.alloc ?_ _ | refine Blk.other ?_ ?_ _) | exact eqL rfl | (refine neB ?_; omega))); have Br : Blk W8 (b1) [.int .i64 n1, .int .i64 n2, .int .i64 0, .int .i64 u, .pointer q2] := Blk.keep hb (by repeat' (first | (with_reducible first | assumption | refine Blk.drew ?_ | refine Blk.drewN ?_ _ | apply Blk.set | (refine Blk.new ?_; focus (first | rfl | (simp; done))) | refine Blk.alloc ?_ _ | refine Blk.other ?_ ?_ _) | exact eqL rfl | (refine neB ?_; omega))); have cb := Bb.cell; have fb := Bb.free; have lb_W8 := Bb.lt; have cr := Br.cell; have fr := Br.free; have lr_W8 := Br.lt; have kaW8 : Only b w W8 := (by refine Only.call ?_ hb; (repeat' (first | (with_reducible first | assumption | exact Only.refl _ _ | refine Only.drew ?_ | refine Only.drewN ?_ _ | refine Only.alloc ?_ _ | refine Only.here ?_ _ | refine Only.setCell ?_ ?_ _) | (refine leB ?_; omega)))); clear hb))
    all_goals
      go_upto_region 2 with fail
      go_region_with (fail)
      all_goals
        have TB := Lib.hid fun w => beatL_any n1 n2 (t + u) 0 1 (by decide) rfl w
        go_upto_region 4 with fail
        go_region_with (go_at_call 29; refine (TB.out _).mono ?_; rintro e W9 ⟨rfl, hb⟩; have Bb : Blk W9 (b) [.int .i64 n1, .int .i64 n2, .int .i64 0, .int .i64 (t + u), .pointer q2] := Blk.keep hb (by repeat' (first | (with_reducible first | assumption | refine Blk.drew ?_ | refine Blk.drewN ?_ _ | apply Blk.set | (refine Blk.new ?_; focus (first | rfl | (simp; done))) | refine Blk.alloc ?_ _ | refine Blk.other ?_ ?_ _) | exact eqL rfl | (refine neB ?_; omega))); have Br : Blk W9 (b1) [.int .i64 n1, .int .i64 n2, .int .i64 0, .int .i64 u, .pointer q2] := Blk.keep hb (by repeat' (first | (with_reducible first | assumption | refine Blk.drew ?_ | refine Blk.drewN ?_ _ | apply Blk.set | (refine Blk.new ?_; focus (first | rfl | (simp; done))) | refine Blk.alloc ?_ _ | refine Blk.other ?_ ?_ _) | exact eqL rfl | (refine neB ?_; omega))); have cb := Bb.cell; have fb := Bb.free; have lb_W9 := Bb.lt; have cr := Br.cell; have fr := Br.free; have lr_W9 := Br.lt; have kaW9 : Only b w W9 := (by refine Only.call ?_ hb; (repeat' (first | (with_reducible first | assumption | exact Only.refl _ _ | refine Only.drew ?_ | refine Only.drewN ?_ _ | refine Only.alloc ?_ _ | refine Only.here ?_ _ | refine Only.setCell ?_ ?_ _) | (refine leB ?_; omega)))); clear hb)
        all_goals
          go_wp2_with fail
          go_ret
          rw [putE_eq0 (s := ((n1, n2, 0), t)) (r := ((n1, n2, 0), u)) rfl (show (t + u) % 1 = 0 by omega)]
          exact ⟨q2, rfl, Fib.mono (HF.out.below (Only.belowB (show Only b w _ by repeat' (first | (with_reducible first | assumption | exact Only.refl _ _ | refine Only.drew ?_ | refine Only.drewN ?_ _ | refine Only.alloc ?_ _ | refine Only.here ?_ _ | refine Only.setCell ?_ ?_ _) | (refine leB ?_; omega))) (by omega) |>.mono (by omega))) (by omega), (show Only b w _ by repeat' (first | (with_reducible first | assumption | exact Only.refl _ _ | refine Only.drew ?_ | refine Only.drewN ?_ _ | refine Only.alloc ?_ _ | refine Only.here ?_ _ | refine Only.setCell ?_ ?_ _) | (refine leB ?_; omega)))⟩
  · skip
    have cb := Bb.cell
    have fb := Bb.free
    have lb_w := Bb.lt
    have cr := Br.cell
    have fr := Br.free
    have lr_w := Br.lt
    clear hk
    go_enter Tryd.func51, Tryd.ntmps51
    have TP := Lib.hid fun w => hasPlate_any n1 n2 1 t n1 n2 1 u true (decide_eq_true rfl) w
    go_upto_region 1 with fail
    go_region_held3 (fun w' => (∀ k, w'.cell? ⟨b, k, none⟩ = [.int .i64 n1, .int .i64 n2, .int .i64 1, .int .i64 t, .pointer (some ⟨b1, 0, none⟩)][k]?) ∧ (∀ k, w'.cell? ⟨b1, k, none⟩ = [.int .i64 n1, .int .i64 n2, .int .i64 1, .int .i64 u, .pointer q2][k]?))
      (((try dsimp only); (refine ⟨Blk.cell ?_, Blk.cell ?_⟩ <;> (repeat' (first | (with_reducible first | assumption | refine Blk.drew ?_ | refine Blk.drewN ?_ _ | apply Blk.set | (refine Blk.new ?_; focus (first | rfl | (simp; done))) | refine Blk.alloc ?_ _ | refine Blk.other ?_ ?_ _) | exact eqL rfl | (refine neB ?_; omega))))))
      (first
        | (go_at_call 65; refine (TP.out _).mono ?_; rintro e W8 ⟨rfl, hb⟩; have Bb : Blk W8 (b) [.int .i64 n1, .int .i64 n2, .int .i64 1, .int .i64 t, .pointer (some ⟨b1, 0, none⟩)] := Blk.keep hb (by repeat' (first | (with_reducible first | assumption | refine Blk.drew ?_ | refine Blk.drewN ?_ _ | apply Blk.set | (refine Blk.new ?_; focus (first | rfl | (simp; done))) | refine Blk.alloc ?_ _ | refine Blk.other ?_ ?_ _) | exact eqL rfl | (refine neB ?_; omega))); have Br : Blk W8 (b1) [.int .i64 n1, .int .i64 n2, .int .i64 1, .int .i64 u, .pointer q2] := Blk.keep hb (by repeat' (first | (with_reducible first | assumption | refine Blk.drew ?_ | refine Blk.drewN ?_ _ | apply Blk.set | (refine Blk.new ?_; focus (first | rfl | (simp; done))) | refine Blk.alloc ?_ _ | refine Blk.other ?_ ?_ _) | exact eqL rfl | (refine neB ?_; omega))); have cb := Bb.cell; have fb := Bb.free; have lb_W8 := Bb.lt; have cr := Br.cell; have fr := Br.free; have lr_W8 := Br.lt; have kaW8 : Only b w W8 := (by refine Only.call ?_ hb; (repeat' (first | (with_reducible first | assumption | exact Only.refl _ _ | refine Only.drew ?_ | refine Only.drewN ?_ _ | refine Only.alloc ?_ _ | refine Only.here ?_ _ | refine Only.setCell ?_ ?_ _) | (refine leB ?_; omega)))); clear hb))
    all_goals
      go_upto_region 2 with fail
      go_region_with (fail)
      all_goals
        have TB := Lib.hid fun w => beatL_any n1 n2 (t + u) 1 4 (by decide) rfl w
        go_upto_region 4 with fail
        go_region_with (go_at_call 29; refine (TB.out _).mono ?_; rintro e W9 ⟨rfl, hb⟩; have Bb : Blk W9 (b) [.int .i64 n1, .int .i64 n2, .int .i64 1, .int .i64 (t + u), .pointer q2] := Blk.keep hb (by repeat' (first | (with_reducible first | assumption | refine Blk.drew ?_ | refine Blk.drewN ?_ _ | apply Blk.set | (refine Blk.new ?_; focus (first | rfl | (simp; done))) | refine Blk.alloc ?_ _ | refine Blk.other ?_ ?_ _) | exact eqL rfl | (refine neB ?_; omega))); have Br : Blk W9 (b1) [.int .i64 n1, .int .i64 n2, .int .i64 1, .int .i64 u, .pointer q2] := Blk.keep hb (by repeat' (first | (with_reducible first | assumption | refine Blk.drew ?_ | refine Blk.drewN ?_ _ | apply Blk.set | (refine Blk.new ?_; focus (first | rfl | (simp; done))) | refine Blk.alloc ?_ _ | refine Blk.other ?_ ?_ _) | exact eqL rfl | (refine neB ?_; omega))); have cb := Bb.cell; have fb := Bb.free; have lb_W9 := Bb.lt; have cr := Br.cell; have fr := Br.free; have lr_W9 := Br.lt; have kaW9 : Only b w W9 := (by refine Only.call ?_ hb; (repeat' (first | (with_reducible first | assumption | exact Only.refl _ _ | refine Only.drew ?_ | refine Only.drewN ?_ _ | refine Only.alloc ?_ _ | refine Only.here ?_ _ | refine Only.setCell ?_ ?_ _) | (refine leB ?_; omega)))); clear hb)
        all_goals
          by_cases hz : (t + u) % 4 = 0
          · skip
            go_wp2_with fail
            go_ret
            rw [putE_eq0 (s := ((n1, n2, 1), t)) (r := ((n1, n2, 1), u)) rfl (show (t + u) % 4 = 0 by omega)]
            exact ⟨q2, rfl, Fib.mono (HF.out.below (Only.belowB (show Only b w _ by repeat' (first | (with_reducible first | assumption | exact Only.refl _ _ | refine Only.drew ?_ | refine Only.drewN ?_ _ | refine Only.alloc ?_ _ | refine Only.here ?_ _ | refine Only.setCell ?_ ?_ _) | (refine leB ?_; omega))) (by omega) |>.mono (by omega))) (by omega), (show Only b w _ by repeat' (first | (with_reducible first | assumption | exact Only.refl _ _ | refine Only.drew ?_ | refine Only.drewN ?_ _ | refine Only.alloc ?_ _ | refine Only.here ?_ _ | refine Only.setCell ?_ ?_ _) | (refine leB ?_; omega)))⟩
          · skip
            have hz2 : ((t + u) % 4 == 0) = false := by simp [hz]
            go_wp2_with fail
            go_ret
            rw [putE_eq1 (s := ((n1, n2, 1), t)) (r := ((n1, n2, 1), u)) rfl (show ¬ (t + u) % 4 = 0 by omega)]
            exact ⟨some ⟨b, 0, none⟩, rfl, ⟨b, q2, rfl, (by omega), Nat.lt_succ_self _, (show Blk _ _ [.int .i64 n1, .int .i64 n2, .int .i64 1, .int .i64 ((t + u) % 4), .pointer q2] by repeat' (first | (with_reducible first | assumption | refine Blk.drew ?_ | refine Blk.drewN ?_ _ | apply Blk.set | (refine Blk.new ?_; focus (first | rfl | (simp; done))) | refine Blk.alloc ?_ _ | refine Blk.other ?_ ?_ _) | exact eqL rfl | (refine neB ?_; omega))), Fib.mono (HF.out.below (Only.belowB (show Only b w _ by repeat' (first | (with_reducible first | assumption | exact Only.refl _ _ | refine Only.drew ?_ | refine Only.drewN ?_ _ | refine Only.alloc ?_ _ | refine Only.here ?_ _ | refine Only.setCell ?_ ?_ _) | (refine leB ?_; omega))) (by omega) |>.mono (by omega))) (by omega)⟩, (show Only b w _ by repeat' (first | (with_reducible first | assumption | exact Only.refl _ _ | refine Only.drew ?_ | refine Only.drewN ?_ _ | refine Only.alloc ?_ _ | refine Only.here ?_ _ | refine Only.setCell ?_ ?_ _) | (refine leB ?_; omega)))⟩
  · skip
    have cb := Bb.cell
    have fb := Bb.free
    have lb_w := Bb.lt
    have cr := Br.cell
    have fr := Br.free
    have lr_w := Br.lt
    clear hk
    go_enter Tryd.func51, Tryd.ntmps51
    have TP := Lib.hid fun w => hasPlate_any n1 n2 2 t n1 n2 2 u true (decide_eq_true rfl) w
    go_upto_region 1 with fail
    go_region_held3 (fun w' => (∀ k, w'.cell? ⟨b, k, none⟩ = [.int .i64 n1, .int .i64 n2, .int .i64 2, .int .i64 t, .pointer (some ⟨b1, 0, none⟩)][k]?) ∧ (∀ k, w'.cell? ⟨b1, k, none⟩ = [.int .i64 n1, .int .i64 n2, .int .i64 2, .int .i64 u, .pointer q2][k]?))
      (((try dsimp only); (refine ⟨Blk.cell ?_, Blk.cell ?_⟩ <;> (repeat' (first | (with_reducible first | assumption | refine Blk.drew ?_ | refine Blk.drewN ?_ _ | apply Blk.set | (refine Blk.new ?_; focus (first | rfl | (simp; done))) | refine Blk.alloc ?_ _ | refine Blk.other ?_ ?_ _) | exact eqL rfl | (refine neB ?_; omega))))))
      (first
        | (go_at_call 65; refine (TP.out _).mono ?_; rintro e W8 ⟨rfl, hb⟩; have Bb : Blk W8 (b) [.int .i64 n1, .int .i64 n2, .int .i64 2, .int .i64 t, .pointer (some ⟨b1, 0, none⟩)] := Blk.keep hb (by repeat' (first | (with_reducible first | assumption | refine Blk.drew ?_ | refine Blk.drewN ?_ _ | apply Blk.set | (refine Blk.new ?_; focus (first | rfl | (simp; done))) | refine Blk.alloc ?_ _ | refine Blk.other ?_ ?_ _) | exact eqL rfl | (refine neB ?_; omega))); have Br : Blk W8 (b1) [.int .i64 n1, .int .i64 n2, .int .i64 2, .int .i64 u, .pointer q2] := Blk.keep hb (by repeat' (first | (with_reducible first | assumption | refine Blk.drew ?_ | refine Blk.drewN ?_ _ | apply Blk.set | (refine Blk.new ?_; focus (first | rfl | (simp; done))) | refine Blk.alloc ?_ _ | refine Blk.other ?_ ?_ _) | exact eqL rfl | (refine neB ?_; omega))); have cb := Bb.cell; have fb := Bb.free; have lb_W8 := Bb.lt; have cr := Br.cell; have fr := Br.free; have lr_W8 := Br.lt; have kaW8 : Only b w W8 := (by refine Only.call ?_ hb; (repeat' (first | (with_reducible first | assumption | exact Only.refl _ _ | refine Only.drew ?_ | refine Only.drewN ?_ _ | refine Only.alloc ?_ _ | refine Only.here ?_ _ | refine Only.setCell ?_ ?_ _) | (refine leB ?_; omega)))); clear hb))
    all_goals
      go_upto_region 2 with fail
      go_region_with (fail)
      all_goals
        have TB := Lib.hid fun w => beatL_any n1 n2 (t + u) 2 2 (by decide) rfl w
        go_upto_region 4 with fail
        go_region_with (go_at_call 29; refine (TB.out _).mono ?_; rintro e W9 ⟨rfl, hb⟩; have Bb : Blk W9 (b) [.int .i64 n1, .int .i64 n2, .int .i64 2, .int .i64 (t + u), .pointer q2] := Blk.keep hb (by repeat' (first | (with_reducible first | assumption | refine Blk.drew ?_ | refine Blk.drewN ?_ _ | apply Blk.set | (refine Blk.new ?_; focus (first | rfl | (simp; done))) | refine Blk.alloc ?_ _ | refine Blk.other ?_ ?_ _) | exact eqL rfl | (refine neB ?_; omega))); have Br : Blk W9 (b1) [.int .i64 n1, .int .i64 n2, .int .i64 2, .int .i64 u, .pointer q2] := Blk.keep hb (by repeat' (first | (with_reducible first | assumption | refine Blk.drew ?_ | refine Blk.drewN ?_ _ | apply Blk.set | (refine Blk.new ?_; focus (first | rfl | (simp; done))) | refine Blk.alloc ?_ _ | refine Blk.other ?_ ?_ _) | exact eqL rfl | (refine neB ?_; omega))); have cb := Bb.cell; have fb := Bb.free; have lb_W9 := Bb.lt; have cr := Br.cell; have fr := Br.free; have lr_W9 := Br.lt; have kaW9 : Only b w W9 := (by refine Only.call ?_ hb; (repeat' (first | (with_reducible first | assumption | exact Only.refl _ _ | refine Only.drew ?_ | refine Only.drewN ?_ _ | refine Only.alloc ?_ _ | refine Only.here ?_ _ | refine Only.setCell ?_ ?_ _) | (refine leB ?_; omega)))); clear hb)
        all_goals
          by_cases hz : (t + u) % 2 = 0
          · skip
            go_wp2_with fail
            go_ret
            rw [putE_eq0 (s := ((n1, n2, 2), t)) (r := ((n1, n2, 2), u)) rfl (show (t + u) % 2 = 0 by omega)]
            exact ⟨q2, rfl, Fib.mono (HF.out.below (Only.belowB (show Only b w _ by repeat' (first | (with_reducible first | assumption | exact Only.refl _ _ | refine Only.drew ?_ | refine Only.drewN ?_ _ | refine Only.alloc ?_ _ | refine Only.here ?_ _ | refine Only.setCell ?_ ?_ _) | (refine leB ?_; omega))) (by omega) |>.mono (by omega))) (by omega), (show Only b w _ by repeat' (first | (with_reducible first | assumption | exact Only.refl _ _ | refine Only.drew ?_ | refine Only.drewN ?_ _ | refine Only.alloc ?_ _ | refine Only.here ?_ _ | refine Only.setCell ?_ ?_ _) | (refine leB ?_; omega)))⟩
          · skip
            have hz2 : ((t + u) % 2 == 0) = false := by simp [hz]
            go_wp2_with fail
            go_ret
            rw [putE_eq1 (s := ((n1, n2, 2), t)) (r := ((n1, n2, 2), u)) rfl (show ¬ (t + u) % 2 = 0 by omega)]
            exact ⟨some ⟨b, 0, none⟩, rfl, ⟨b, q2, rfl, (by omega), Nat.lt_succ_self _, (show Blk _ _ [.int .i64 n1, .int .i64 n2, .int .i64 2, .int .i64 ((t + u) % 2), .pointer q2] by repeat' (first | (with_reducible first | assumption | refine Blk.drew ?_ | refine Blk.drewN ?_ _ | apply Blk.set | (refine Blk.new ?_; focus (first | rfl | (simp; done))) | refine Blk.alloc ?_ _ | refine Blk.other ?_ ?_ _) | exact eqL rfl | (refine neB ?_; omega))), Fib.mono (HF.out.below (Only.belowB (show Only b w _ by repeat' (first | (with_reducible first | assumption | exact Only.refl _ _ | refine Only.drew ?_ | refine Only.drewN ?_ _ | refine Only.alloc ?_ _ | refine Only.here ?_ _ | refine Only.setCell ?_ ?_ _) | (refine leB ?_; omega))) (by omega) |>.mono (by omega))) (by omega)⟩, (show Only b w _ by repeat' (first | (with_reducible first | assumption | exact Only.refl _ _ | refine Only.drew ?_ | refine Only.drewN ?_ _ | refine Only.alloc ?_ _ | refine Only.here ?_ _ | refine Only.setCell ?_ ?_ _) | (refine leB ?_; omega)))⟩
  · skip
    have cb := Bb.cell
    have fb := Bb.free
    have lb_w := Bb.lt
    have cr := Br.cell
    have fr := Br.free
    have lr_w := Br.lt
    clear hk
    go_enter Tryd.func51, Tryd.ntmps51
    have TP := Lib.hid fun w => hasPlate_any n1 n2 3 t n1 n2 3 u true (decide_eq_true rfl) w
    go_upto_region 1 with fail
    go_region_held3 (fun w' => (∀ k, w'.cell? ⟨b, k, none⟩ = [.int .i64 n1, .int .i64 n2, .int .i64 3, .int .i64 t, .pointer (some ⟨b1, 0, none⟩)][k]?) ∧ (∀ k, w'.cell? ⟨b1, k, none⟩ = [.int .i64 n1, .int .i64 n2, .int .i64 3, .int .i64 u, .pointer q2][k]?))
      (((try dsimp only); (refine ⟨Blk.cell ?_, Blk.cell ?_⟩ <;> (repeat' (first | (with_reducible first | assumption | refine Blk.drew ?_ | refine Blk.drewN ?_ _ | apply Blk.set | (refine Blk.new ?_; focus (first | rfl | (simp; done))) | refine Blk.alloc ?_ _ | refine Blk.other ?_ ?_ _) | exact eqL rfl | (refine neB ?_; omega))))))
      (first
        | (go_at_call 65; refine (TP.out _).mono ?_; rintro e W8 ⟨rfl, hb⟩; have Bb : Blk W8 (b) [.int .i64 n1, .int .i64 n2, .int .i64 3, .int .i64 t, .pointer (some ⟨b1, 0, none⟩)] := Blk.keep hb (by repeat' (first | (with_reducible first | assumption | refine Blk.drew ?_ | refine Blk.drewN ?_ _ | apply Blk.set | (refine Blk.new ?_; focus (first | rfl | (simp; done))) | refine Blk.alloc ?_ _ | refine Blk.other ?_ ?_ _) | exact eqL rfl | (refine neB ?_; omega))); have Br : Blk W8 (b1) [.int .i64 n1, .int .i64 n2, .int .i64 3, .int .i64 u, .pointer q2] := Blk.keep hb (by repeat' (first | (with_reducible first | assumption | refine Blk.drew ?_ | refine Blk.drewN ?_ _ | apply Blk.set | (refine Blk.new ?_; focus (first | rfl | (simp; done))) | refine Blk.alloc ?_ _ | refine Blk.other ?_ ?_ _) | exact eqL rfl | (refine neB ?_; omega))); have cb := Bb.cell; have fb := Bb.free; have lb_W8 := Bb.lt; have cr := Br.cell; have fr := Br.free; have lr_W8 := Br.lt; have kaW8 : Only b w W8 := (by refine Only.call ?_ hb; (repeat' (first | (with_reducible first | assumption | exact Only.refl _ _ | refine Only.drew ?_ | refine Only.drewN ?_ _ | refine Only.alloc ?_ _ | refine Only.here ?_ _ | refine Only.setCell ?_ ?_ _) | (refine leB ?_; omega)))); clear hb))
    all_goals
      go_upto_region 2 with fail
      go_region_with (fail)
      all_goals
        have TB := Lib.hid fun w => beatL_any n1 n2 (t + u) 3 4 (by decide) rfl w
        go_upto_region 4 with fail
        go_region_with (go_at_call 29; refine (TB.out _).mono ?_; rintro e W9 ⟨rfl, hb⟩; have Bb : Blk W9 (b) [.int .i64 n1, .int .i64 n2, .int .i64 3, .int .i64 (t + u), .pointer q2] := Blk.keep hb (by repeat' (first | (with_reducible first | assumption | refine Blk.drew ?_ | refine Blk.drewN ?_ _ | apply Blk.set | (refine Blk.new ?_; focus (first | rfl | (simp; done))) | refine Blk.alloc ?_ _ | refine Blk.other ?_ ?_ _) | exact eqL rfl | (refine neB ?_; omega))); have Br : Blk W9 (b1) [.int .i64 n1, .int .i64 n2, .int .i64 3, .int .i64 u, .pointer q2] := Blk.keep hb (by repeat' (first | (with_reducible first | assumption | refine Blk.drew ?_ | refine Blk.drewN ?_ _ | apply Blk.set | (refine Blk.new ?_; focus (first | rfl | (simp; done))) | refine Blk.alloc ?_ _ | refine Blk.other ?_ ?_ _) | exact eqL rfl | (refine neB ?_; omega))); have cb := Bb.cell; have fb := Bb.free; have lb_W9 := Bb.lt; have cr := Br.cell; have fr := Br.free; have lr_W9 := Br.lt; have kaW9 : Only b w W9 := (by refine Only.call ?_ hb; (repeat' (first | (with_reducible first | assumption | exact Only.refl _ _ | refine Only.drew ?_ | refine Only.drewN ?_ _ | refine Only.alloc ?_ _ | refine Only.here ?_ _ | refine Only.setCell ?_ ?_ _) | (refine leB ?_; omega)))); clear hb)
        all_goals
          by_cases hz : (t + u) % 4 = 0
          · skip
            go_wp2_with fail
            go_ret
            rw [putE_eq0 (s := ((n1, n2, 3), t)) (r := ((n1, n2, 3), u)) rfl (show (t + u) % 4 = 0 by omega)]
            exact ⟨q2, rfl, Fib.mono (HF.out.below (Only.belowB (show Only b w _ by repeat' (first | (with_reducible first | assumption | exact Only.refl _ _ | refine Only.drew ?_ | refine Only.drewN ?_ _ | refine Only.alloc ?_ _ | refine Only.here ?_ _ | refine Only.setCell ?_ ?_ _) | (refine leB ?_; omega))) (by omega) |>.mono (by omega))) (by omega), (show Only b w _ by repeat' (first | (with_reducible first | assumption | exact Only.refl _ _ | refine Only.drew ?_ | refine Only.drewN ?_ _ | refine Only.alloc ?_ _ | refine Only.here ?_ _ | refine Only.setCell ?_ ?_ _) | (refine leB ?_; omega)))⟩
          · skip
            have hz2 : ((t + u) % 4 == 0) = false := by simp [hz]
            go_wp2_with fail
            go_ret
            rw [putE_eq1 (s := ((n1, n2, 3), t)) (r := ((n1, n2, 3), u)) rfl (show ¬ (t + u) % 4 = 0 by omega)]
            exact ⟨some ⟨b, 0, none⟩, rfl, ⟨b, q2, rfl, (by omega), Nat.lt_succ_self _, (show Blk _ _ [.int .i64 n1, .int .i64 n2, .int .i64 3, .int .i64 ((t + u) % 4), .pointer q2] by repeat' (first | (with_reducible first | assumption | refine Blk.drew ?_ | refine Blk.drewN ?_ _ | apply Blk.set | (refine Blk.new ?_; focus (first | rfl | (simp; done))) | refine Blk.alloc ?_ _ | refine Blk.other ?_ ?_ _) | exact eqL rfl | (refine neB ?_; omega))), Fib.mono (HF.out.below (Only.belowB (show Only b w _ by repeat' (first | (with_reducible first | assumption | exact Only.refl _ _ | refine Only.drew ?_ | refine Only.drewN ?_ _ | refine Only.alloc ?_ _ | refine Only.here ?_ _ | refine Only.setCell ?_ ?_ _) | (refine leB ?_; omega))) (by omega) |>.mono (by omega))) (by omega)⟩, (show Only b w _ by repeat' (first | (with_reducible first | assumption | exact Only.refl _ _ | refine Only.drew ?_ | refine Only.drewN ?_ _ | refine Only.alloc ?_ _ | refine Only.here ?_ _ | refine Only.setCell ?_ ?_ _) | (refine leB ?_; omega)))⟩
end Go.Proofs.YtkiggkmbgkonmabDoor
