/-
  The model: FibreRun, FibreStays.
-/
import Derived.Test.YtkdkeacfifjjoabGreatDoorSpecG2
import Derived.Test.YtkdkeacfifjjoabGreatDoorBSec
import Derived.Test.YtkdkeacfifjjoabGreatDoorSpecM2
import Derived.Test.YtkdkeacfifjjoabGreatDoorBSpecV
namespace Go.Proofs.YtkdkeacfifjjoabGreatDoor
open Go.ChangeShapes Go.WideShapes Go.ChangeAt Go.RowKit
set_option linter.unusedVariables false

set_option linter.unusedSimpArgs false
set_option maxRecDepth 100000 in
set_option maxHeartbeats 8000000 in
theorem specFbRun_any (a : Option Addr) (ls : List L4) (cap : Nat) (x1 x2 x3 y1 y2 y3 : Int) (w : World) (h : Lys w a ls) (hn : ls.length ≤ 1048576) : Calls Tryz.prog 49 #[.slice a ls.length cap, .agg #[.int .i64 x1, .int .i64 x2, .int .i64 x3, .int .i64 y1, .int .i64 y2, .int .i64 y3]] w (Gave6 (runM ls ((x1, x2, x3), (y1, y2, y3))) w) := by
  obtain ⟨a1, a2, a3, a4, a5, a6, a7, a8, a9, a10, a11, a12, km, m1, m2, mv⟩ := gave12_at (fbM ls)
  have TM := Lib.hid fun (W : World) (ka : Acc w W) => mv _ _ _ W (specFbMat_any a ls cap W (h.keep ka) hn)
  obtain ⟨o, ho⟩ : ∃ o, runM ls ((x1, x2, x3), (y1, y2, y3)) = o := ⟨_, rfl⟩
  rw [ho]
  have M1 := Lib.hid fun e => (show runM ls ((x1, x2, x3), (y1, y2, y3)) = appM ((a1, a2, a3), (a4, a5, a6), (a7, a8, a9), (a10, a11, a12)) ((x1, x2, x3), (y1, y2, y3)) by unfold runM; rw [m1 e]; rfl).symm.trans ho
  have M2 := Lib.hid fun e => (show runM ls ((x1, x2, x3), (y1, y2, y3)) = none by unfold runM; rw [m2 e]; rfl).symm.trans ho
  clear h m1 m2 mv ho
  go_enter Tryz.func49, Tryz.ntmps49
  go_wp2_with fail
  refine (TM.out _ (by repeat' (first | (with_reducible first | assumption | exact Acc.refl _ | refine Acc.drew ?_ | refine Acc.drewN ?_ _ | refine Acc.alloc ?_ _ | refine Acc.setCell ?_ ?_ _) | (refine leB ?_; omega)))).mono ?_
  rintro e W1 ⟨rfl, hb⟩
  have Bv : Blk W1 (w.heap.size) [.int .i64 x1, .int .i64 x2, .int .i64 x3, .int .i64 y1, .int .i64 y2, .int .i64 y3] := Blk.keep hb (by repeat' (first | (with_reducible first | assumption | refine Blk.drew ?_ | refine Blk.drewN ?_ _ | apply Blk.set | (refine Blk.new ?_; focus (first | rfl | (simp; done))) | refine Blk.alloc ?_ _ | refine Blk.other ?_ ?_ _) | exact eqL rfl | (refine neB ?_; omega)))
  have Br : Blk W1 (w.heap.size + 1) [.int .i64 0, .int .i64 0, .int .i64 0, .int .i64 0, .int .i64 0, .int .i64 0] := Blk.keep hb (by repeat' (first | (with_reducible first | assumption | refine Blk.drew ?_ | refine Blk.drewN ?_ _ | apply Blk.set | (refine Blk.new ?_; focus (first | rfl | (simp; done))) | refine Blk.alloc ?_ _ | refine Blk.other ?_ ?_ _) | exact eqL rfl | (refine neB ?_; omega)))
  have cv := Bv.cell
  have fv := Bv.free
  have lv_W1 := Bv.lt
  have cr := Br.cell
  have fr := Br.free
  have lr_W1 := Br.lt
  have kaW1 : Acc w W1 := by
    refine Acc.call ?_ hb
    (repeat' (first | (with_reducible first | assumption | exact Acc.refl _ | refine Acc.drew ?_ | refine Acc.drewN ?_ _ | refine Acc.alloc ?_ _ | refine Acc.setCell ?_ ?_ _) | (refine leB ?_; omega)))
  clear hb
  cases km with
  | false =>
    obtain rfl := M2.out rfl
    go_wp2_with fail
    refine bodyPost_ret (v := .tuple #[.agg #[.int .i64 0, .int .i64 0, .int .i64 0, .int .i64 0, .int .i64 0, .int .i64 0], .bool false]) (by simp [results, Tryz.results49, go_sem, *]) rfl ⟨fun _ _ _ _ _ _ h => (by cases h), fun _ => rfl, ?_⟩
    show Acc w _
    (repeat' (first | (with_reducible first | assumption | exact Acc.refl _ | refine Acc.drew ?_ | refine Acc.drewN ?_ _ | refine Acc.alloc ?_ _ | refine Acc.setCell ?_ ?_ _) | (refine leB ?_; omega)))
  | true =>
    have HO := Lib.hid (M1.out rfl)
    clear M1 M2
    have T := Lib.hid fun w => specMApply_any a1 a2 a3 a4 a5 a6 a7 a8 a9 a10 a11 a12 x1 x2 x3 y1 y2 y3 w
    rw [HO.out] at T
    clear HO
    cases o with
    | none =>
      have D := Lib.hid fun w => (T.out w).mono fun e w' h => And.intro (h.2.1 rfl) h.2.2
      clear T
      go_wp2_with fail
      refine (D.out _).mono ?_
      rintro e W2 ⟨rfl, hb⟩
      have Bv : Blk W2 (w.heap.size) [.int .i64 x1, .int .i64 x2, .int .i64 x3, .int .i64 y1, .int .i64 y2, .int .i64 y3] := Blk.keep hb (by repeat' (first | (with_reducible first | assumption | refine Blk.drew ?_ | refine Blk.drewN ?_ _ | apply Blk.set | (refine Blk.new ?_; focus (first | rfl | (simp; done))) | refine Blk.alloc ?_ _ | refine Blk.other ?_ ?_ _) | exact eqL rfl | (refine neB ?_; omega)))
      have Br : Blk W2 (w.heap.size + 1) [.int .i64 0, .int .i64 0, .int .i64 0, .int .i64 0, .int .i64 0, .int .i64 0] := Blk.keep hb (by repeat' (first | (with_reducible first | assumption | refine Blk.drew ?_ | refine Blk.drewN ?_ _ | apply Blk.set | (refine Blk.new ?_; focus (first | rfl | (simp; done))) | refine Blk.alloc ?_ _ | refine Blk.other ?_ ?_ _) | exact eqL rfl | (refine neB ?_; omega)))
      have Bm : Blk W2 (W1.heap.size) [.int .i64 a1, .int .i64 a2, .int .i64 a3, .int .i64 a4, .int .i64 a5, .int .i64 a6, .int .i64 a7, .int .i64 a8, .int .i64 a9, .int .i64 a10, .int .i64 a11, .int .i64 a12] := Blk.keep hb (by repeat' (first | (with_reducible first | assumption | refine Blk.drew ?_ | refine Blk.drewN ?_ _ | apply Blk.set | (refine Blk.new ?_; focus (first | rfl | (simp; done))) | refine Blk.alloc ?_ _ | refine Blk.other ?_ ?_ _) | exact eqL rfl | (refine neB ?_; omega)))
      have cv := Bv.cell
      have fv := Bv.free
      have lv_W2 := Bv.lt
      have cr := Br.cell
      have fr := Br.free
      have lr_W2 := Br.lt
      have cm := Bm.cell
      have fm := Bm.free
      have lm_W2 := Bm.lt
      have kaW2 : Acc w W2 := by
        refine Acc.call ?_ hb
        (repeat' (first | (with_reducible first | assumption | exact Acc.refl _ | refine Acc.drew ?_ | refine Acc.drewN ?_ _ | refine Acc.alloc ?_ _ | refine Acc.setCell ?_ ?_ _) | (refine leB ?_; omega)))
      clear hb
      go_wp2_with fail
      refine bodyPost_ret (v := .tuple #[.agg #[.int .i64 0, .int .i64 0, .int .i64 0, .int .i64 0, .int .i64 0, .int .i64 0], .bool false]) (by simp [results, Tryz.results49, go_sem, *]) rfl ⟨fun _ _ _ _ _ _ h => (by cases h), fun _ => rfl, ?_⟩
      show Acc w _
      (repeat' (first | (with_reducible first | assumption | exact Acc.refl _ | refine Acc.drew ?_ | refine Acc.drewN ?_ _ | refine Acc.alloc ?_ _ | refine Acc.setCell ?_ ?_ _) | (refine leB ?_; omega)))
    | some v =>
      obtain ⟨⟨r1, r2, r3⟩, r4, r5, r6⟩ := v
      have D := Lib.hid fun w => (T.out w).mono fun e w' h => And.intro (h.1 _ _ _ _ _ _ rfl) h.2.2
      clear T
      go_wp2_with fail
      refine (D.out _).mono ?_
      rintro e W2 ⟨rfl, hb⟩
      have Bv : Blk W2 (w.heap.size) [.int .i64 x1, .int .i64 x2, .int .i64 x3, .int .i64 y1, .int .i64 y2, .int .i64 y3] := Blk.keep hb (by repeat' (first | (with_reducible first | assumption | refine Blk.drew ?_ | refine Blk.drewN ?_ _ | apply Blk.set | (refine Blk.new ?_; focus (first | rfl | (simp; done))) | refine Blk.alloc ?_ _ | refine Blk.other ?_ ?_ _) | exact eqL rfl | (refine neB ?_; omega)))
      have Br : Blk W2 (w.heap.size + 1) [.int .i64 0, .int .i64 0, .int .i64 0, .int .i64 0, .int .i64 0, .int .i64 0] := Blk.keep hb (by repeat' (first | (with_reducible first | assumption | refine Blk.drew ?_ | refine Blk.drewN ?_ _ | apply Blk.set | (refine Blk.new ?_; focus (first | rfl | (simp; done))) | refine Blk.alloc ?_ _ | refine Blk.other ?_ ?_ _) | exact eqL rfl | (refine neB ?_; omega)))
      have Bm : Blk W2 (W1.heap.size) [.int .i64 a1, .int .i64 a2, .int .i64 a3, .int .i64 a4, .int .i64 a5, .int .i64 a6, .int .i64 a7, .int .i64 a8, .int .i64 a9, .int .i64 a10, .int .i64 a11, .int .i64 a12] := Blk.keep hb (by repeat' (first | (with_reducible first | assumption | refine Blk.drew ?_ | refine Blk.drewN ?_ _ | apply Blk.set | (refine Blk.new ?_; focus (first | rfl | (simp; done))) | refine Blk.alloc ?_ _ | refine Blk.other ?_ ?_ _) | exact eqL rfl | (refine neB ?_; omega)))
      have cv := Bv.cell
      have fv := Bv.free
      have lv_W2 := Bv.lt
      have cr := Br.cell
      have fr := Br.free
      have lr_W2 := Br.lt
      have cm := Bm.cell
      have fm := Bm.free
      have lm_W2 := Bm.lt
      have kaW2 : Acc w W2 := by
        refine Acc.call ?_ hb
        (repeat' (first | (with_reducible first | assumption | exact Acc.refl _ | refine Acc.drew ?_ | refine Acc.drewN ?_ _ | refine Acc.alloc ?_ _ | refine Acc.setCell ?_ ?_ _) | (refine leB ?_; omega)))
      clear hb
      go_wp2_with fail
      refine bodyPost_ret (v := .tuple #[.agg #[.int .i64 r1, .int .i64 r2, .int .i64 r3, .int .i64 r4, .int .i64 r5, .int .i64 r6], .bool true]) (by simp [results, Tryz.results49, go_sem, *]) rfl ⟨fun _ _ _ _ _ _ h => (by cases h; rfl), fun h => (by cases h), ?_⟩
      show Acc w _
      (repeat' (first | (with_reducible first | assumption | exact Acc.refl _ | refine Acc.drew ?_ | refine Acc.drewN ?_ _ | refine Acc.alloc ?_ _ | refine Acc.setCell ?_ ?_ _) | (refine leB ?_; omega)))
set_option maxRecDepth 100000 in
set_option maxHeartbeats 8000000 in
theorem specFbStays_any (a : Option Addr) (ls : List L4) (cap : Nat) (x1 x2 x3 y1 y2 y3 : Int) (w : World) (h : Lys w a ls) (hn : ls.length ≤ 1048576) : Calls Tryz.prog 15 #[.slice a ls.length cap, .agg #[.int .i64 x1, .int .i64 x2, .int .i64 x3, .int .i64 y1, .int .i64 y2, .int .i64 y3]] w fun e w' => e = .returned (.bool (staM ls x1 x2 x3 y1 y2 y3)) ∧ Below w.heap.size w w' := by
  have T := Lib.hid fun (W : World) (ka : Acc w W) => specFbRun_any a ls cap x1 x2 x3 y1 y2 y3 W (h.keep ka) hn
  obtain ⟨o, ho⟩ : ∃ o, staM ls x1 x2 x3 y1 y2 y3 = o := ⟨_, rfl⟩
  rw [ho]
  have HO := Lib.hid ho
  clear h ho
  cases hr : runM ls ((x1, x2, x3), (y1, y2, y3)) with
  | none =>
    have D := Lib.hid fun W k => (T.out W k).mono fun e w' h => And.intro (h.2.1 hr) h.2.2
    obtain rfl : o = false := HO.out.symm.trans (by unfold staM; rw [hr])
    clear hr T
    go_enter Tryz.func15, Tryz.ntmps15
    go_wp2_with fail
    refine (D.out _ (by repeat' (first | (with_reducible first | assumption | exact Acc.refl _ | refine Acc.drew ?_ | refine Acc.drewN ?_ _ | refine Acc.alloc ?_ _ | refine Acc.setCell ?_ ?_ _) | (refine leB ?_; omega)))).mono ?_
    rintro e W1 ⟨rfl, hb⟩
    have Bv : Blk W1 (w.heap.size) [.int .i64 x1, .int .i64 x2, .int .i64 x3, .int .i64 y1, .int .i64 y2, .int .i64 y3] := Blk.keep hb (by repeat' (first | (with_reducible first | assumption | refine Blk.drew ?_ | refine Blk.drewN ?_ _ | apply Blk.set | (refine Blk.new ?_; focus (first | rfl | (simp; done))) | refine Blk.alloc ?_ _ | refine Blk.other ?_ ?_ _) | exact eqL rfl | (refine neB ?_; omega)))
    have cv := Bv.cell
    have fv := Bv.free
    have lv_W1 := Bv.lt
    have kaW1 : Acc w W1 := by
      refine Acc.call ?_ hb
      (repeat' (first | (with_reducible first | assumption | exact Acc.refl _ | refine Acc.drew ?_ | refine Acc.drewN ?_ _ | refine Acc.alloc ?_ _ | refine Acc.setCell ?_ ?_ _) | (refine leB ?_; omega)))
    clear hb
    go_wp2_with fail
    go_ret
    refine ⟨rfl, ?_⟩
    show Acc w _
    (repeat' (first | (with_reducible first | assumption | exact Acc.refl _ | refine Acc.drew ?_ | refine Acc.drewN ?_ _ | refine Acc.alloc ?_ _ | refine Acc.setCell ?_ ?_ _) | (refine leB ?_; omega)))
  | some u =>
    obtain ⟨⟨r1, r2, r3⟩, r4, r5, r6⟩ := u
    have D := Lib.hid fun W k => (T.out W k).mono fun e w' h => And.intro (h.1 _ _ _ _ _ _ hr) h.2.2
    have HP : RowKit.Hid ((!darkB x1 x2 x3 y1 y2 y3 && alikeF x1 x2 x3 y1 y2 y3 r1 r2 r3 r4 r5 r6) = o) := Lib.hid ((show staM ls x1 x2 x3 y1 y2 y3 = _ by unfold staM; rw [hr]).symm.trans HO.out)
    clear hr T HO
    obtain ⟨d, hd⟩ : ∃ d, darkB x1 x2 x3 y1 y2 y3 = d := ⟨_, rfl⟩
    obtain ⟨s, hs⟩ : ∃ s, alikeF x1 x2 x3 y1 y2 y3 r1 r2 r3 r4 r5 r6 = s := ⟨_, rfl⟩
    have TD := Lib.hid fun w => valid_at hd (dark_any x1 x2 x3 y1 y2 y3 w)
    have TS := Lib.hid fun w => valid_at hs (specJAlike_any x1 x2 x3 y1 y2 y3 r1 r2 r3 r4 r5 r6 w)
    rw [hd, hs] at HP
    clear hd hs
    go_enter Tryz.func15, Tryz.ntmps15
    go_wp2_with fail
    refine (D.out _ (by repeat' (first | (with_reducible first | assumption | exact Acc.refl _ | refine Acc.drew ?_ | refine Acc.drewN ?_ _ | refine Acc.alloc ?_ _ | refine Acc.setCell ?_ ?_ _) | (refine leB ?_; omega)))).mono ?_
    rintro e W1 ⟨rfl, hb⟩
    have Bv : Blk W1 (w.heap.size) [.int .i64 x1, .int .i64 x2, .int .i64 x3, .int .i64 y1, .int .i64 y2, .int .i64 y3] := Blk.keep hb (by repeat' (first | (with_reducible first | assumption | refine Blk.drew ?_ | refine Blk.drewN ?_ _ | apply Blk.set | (refine Blk.new ?_; focus (first | rfl | (simp; done))) | refine Blk.alloc ?_ _ | refine Blk.other ?_ ?_ _) | exact eqL rfl | (refine neB ?_; omega)))
    have cv := Bv.cell
    have fv := Bv.free
    have lv_W1 := Bv.lt
    have kaW1 : Acc w W1 := by
      refine Acc.call ?_ hb
      (repeat' (first | (with_reducible first | assumption | exact Acc.refl _ | refine Acc.drew ?_ | refine Acc.drewN ?_ _ | refine Acc.alloc ?_ _ | refine Acc.setCell ?_ ?_ _) | (refine leB ?_; omega)))
    clear hb
    go_wp2_with fail
    refine (TD.out _).mono ?_
    rintro e W2 ⟨rfl, hb⟩
    have Bv : Blk W2 (w.heap.size) [.int .i64 x1, .int .i64 x2, .int .i64 x3, .int .i64 y1, .int .i64 y2, .int .i64 y3] := Blk.keep hb (by repeat' (first | (with_reducible first | assumption | refine Blk.drew ?_ | refine Blk.drewN ?_ _ | apply Blk.set | (refine Blk.new ?_; focus (first | rfl | (simp; done))) | refine Blk.alloc ?_ _ | refine Blk.other ?_ ?_ _) | exact eqL rfl | (refine neB ?_; omega)))
    have Bu : Blk W2 (W1.heap.size) [.int .i64 r1, .int .i64 r2, .int .i64 r3, .int .i64 r4, .int .i64 r5, .int .i64 r6] := Blk.keep hb (by repeat' (first | (with_reducible first | assumption | refine Blk.drew ?_ | refine Blk.drewN ?_ _ | apply Blk.set | (refine Blk.new ?_; focus (first | rfl | (simp; done))) | refine Blk.alloc ?_ _ | refine Blk.other ?_ ?_ _) | exact eqL rfl | (refine neB ?_; omega)))
    have cv := Bv.cell
    have fv := Bv.free
    have lv_W2 := Bv.lt
    have cu := Bu.cell
    have fu := Bu.free
    have lu_W2 := Bu.lt
    have kaW2 : Acc w W2 := by
      refine Acc.call ?_ hb
      (repeat' (first | (with_reducible first | assumption | exact Acc.refl _ | refine Acc.drew ?_ | refine Acc.drewN ?_ _ | refine Acc.alloc ?_ _ | refine Acc.setCell ?_ ?_ _) | (refine leB ?_; omega)))
    clear hb
    cases d with
    | true =>
      obtain rfl : false = o := HP.out
      go_wp2_with fail
      go_ret
      refine ⟨rfl, ?_⟩
      show Acc w _
      (repeat' (first | (with_reducible first | assumption | exact Acc.refl _ | refine Acc.drew ?_ | refine Acc.drewN ?_ _ | refine Acc.alloc ?_ _ | refine Acc.setCell ?_ ?_ _) | (refine leB ?_; omega)))
    | false =>
      obtain rfl : s = o := by have := HP.out; simpa using this
      go_wp2_with fail
      refine (TS.out _).mono ?_
      rintro e W3 ⟨rfl, hb⟩
      have Bv : Blk W3 (w.heap.size) [.int .i64 x1, .int .i64 x2, .int .i64 x3, .int .i64 y1, .int .i64 y2, .int .i64 y3] := Blk.keep hb (by repeat' (first | (with_reducible first | assumption | refine Blk.drew ?_ | refine Blk.drewN ?_ _ | apply Blk.set | (refine Blk.new ?_; focus (first | rfl | (simp; done))) | refine Blk.alloc ?_ _ | refine Blk.other ?_ ?_ _) | exact eqL rfl | (refine neB ?_; omega)))
      have Bu : Blk W3 (W1.heap.size) [.int .i64 r1, .int .i64 r2, .int .i64 r3, .int .i64 r4, .int .i64 r5, .int .i64 r6] := Blk.keep hb (by repeat' (first | (with_reducible first | assumption | refine Blk.drew ?_ | refine Blk.drewN ?_ _ | apply Blk.set | (refine Blk.new ?_; focus (first | rfl | (simp; done))) | refine Blk.alloc ?_ _ | refine Blk.other ?_ ?_ _) | exact eqL rfl | (refine neB ?_; omega)))
      have cv := Bv.cell
      have fv := Bv.free
      have lv_W3 := Bv.lt
      have cu := Bu.cell
      have fu := Bu.free
      have lu_W3 := Bu.lt
      have kaW3 : Acc w W3 := by
        refine Acc.call ?_ hb
        (repeat' (first | (with_reducible first | assumption | exact Acc.refl _ | refine Acc.drew ?_ | refine Acc.drewN ?_ _ | refine Acc.alloc ?_ _ | refine Acc.setCell ?_ ?_ _) | (refine leB ?_; omega)))
      clear hb
      go_wp2_with fail
      go_ret
      refine ⟨rfl, ?_⟩
      show Acc w _
      (repeat' (first | (with_reducible first | assumption | exact Acc.refl _ | refine Acc.drew ?_ | refine Acc.drewN ?_ _ | refine Acc.alloc ?_ _ | refine Acc.setCell ?_ ?_ _) | (refine leB ?_; omega)))
end Go.Proofs.YtkdkeacfifjjoabGreatDoor
