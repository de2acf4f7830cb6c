/-
  The model: FibreOrder.
-/
import Derived.Test.YtkiggkmbgkonmaaGreatDoorSpecG2
import Derived.Test.YtkiggkmbgkonmaaGreatDoorSecMath2
import Derived.Test.YtkiggkmbgkonmaaGreatDoorSpecM4
namespace Go.Proofs.YtkiggkmbgkonmaaGreatDoor
open Go.ChangeShapes Go.WideShapes Go.ChangeAt Go.RowKit
set_option linter.unusedVariables false

set_option linter.unusedSimpArgs false
/-- A number told. -/
def GaveI (o : Option Int) (w : World) (e : Ending) (w' : World) : Prop :=
  (∀ n, o = some n → e = .returned (.tuple #[.int .i64 n, .bool true])) ∧ (o = none → e = .returned (.tuple #[.int .i64 0, .bool false])) ∧ Below w.heap.size w w'
set_option maxRecDepth 100000 in
set_option maxHeartbeats 16000000 in
theorem specFbOrder_any (a : Option Addr) (ls : List L4) (cap : Nat) (w : World) (h : Lys w a ls) (hn : ls.length ≤ 1048576) : Calls Tryz.prog 17 #[.slice a ls.length cap] w (GaveI (ordM ls) w) := by
  obtain ⟨a1, a2, a3, a4, a5, a6, a7, a8, a9, a10, a11, a12, km, m1, m2, mv⟩ := gave12_at (fbM ls)
  have TM := Lib.hid fun (W : World) (ka : Acc w W) => mv _ _ _ W (specFbMat_any a ls cap W (h.keep ka) hn)
  obtain ⟨o, ho⟩ : ∃ o, ordM ls = o := ⟨_, rfl⟩
  rw [ho]
  have M1 := Lib.hid fun e => (show ordM ls = some (ordG ((a1, a2, a3), (a4, a5, a6), (a7, a8, a9), (a10, a11, a12)) 24 ((a1, a2, a3), (a4, a5, a6), (a7, a8, a9), (a10, a11, a12))) by unfold ordM; rw [m1 e]; rfl).symm.trans ho
  have M2 := Lib.hid fun e => (show ordM ls = none by unfold ordM; rw [m2 e]; rfl).symm.trans ho
  clear h m1 m2 mv ho
  go_enter Tryz.func17, Tryz.ntmps17
  go_wp2_with fail
  refine (TM.out _ (by repeat' (first | (with_reducible first | assumption | exact Acc.refl _ | refine Acc.drew ?_ | refine Acc.drewN ?_ _ | refine Acc.alloc ?_ _ | refine Acc.setCell ?_ ?_ _) | (refine leB ?_; omega)))).mono ?_
  rintro e W1 ⟨rfl, hb⟩
  have kaW1 : Acc w W1 := by
    refine Acc.call ?_ hb
    (repeat' (first | (with_reducible first | assumption | exact Acc.refl _ | refine Acc.drew ?_ | refine Acc.drewN ?_ _ | refine Acc.alloc ?_ _ | refine Acc.setCell ?_ ?_ _) | (refine leB ?_; omega)))
  clear hb
  cases km with
  | false =>
    obtain rfl := M2.out rfl
    go_wp2_with fail
    refine bodyPost_ret (by conv => lhs; simp [results, Tryz.results17, go_sem, *]) rfl ⟨fun _ h => (by cases h), fun _ => rfl, ?_⟩
    show Acc w _
    (repeat' (first | (with_reducible first | assumption | exact Acc.refl _ | refine Acc.drew ?_ | refine Acc.drewN ?_ _ | refine Acc.alloc ?_ _ | refine Acc.setCell ?_ ?_ _) | (refine leB ?_; omega)))
  | true =>
    obtain ⟨n, hn'⟩ : ∃ n, ordG ((a1, a2, a3), (a4, a5, a6), (a7, a8, a9), (a10, a11, a12)) 24 ((a1, a2, a3), (a4, a5, a6), (a7, a8, a9), (a10, a11, a12)) = n := ⟨_, rfl⟩
    obtain rfl : o = some n := by rw [← hn']; exact (M1.out rfl).symm
    have HN := Lib.hid hn'
    clear hn' M1 M2
    go_wp2_with fail
    refine (specPhase_0 _).mono ?_
    rintro e W2 ⟨rfl, hb⟩
    have Bm : Blk W2 (W1.heap.size) [.int .i64 a1, .int .i64 a2, .int .i64 a3, .int .i64 a4, .int .i64 a5, .int .i64 a6, .int .i64 a7, .int .i64 a8, .int .i64 a9, .int .i64 a10, .int .i64 a11, .int .i64 a12] := Blk.keep hb (by repeat' (first | (with_reducible first | assumption | refine Blk.drew ?_ | refine Blk.drewN ?_ _ | apply Blk.set | (refine Blk.new ?_; focus (first | rfl | (simp; done))) | refine Blk.alloc ?_ _ | refine Blk.other ?_ ?_ _) | exact eqL rfl | (refine neB ?_; omega)))
    have cm := Bm.cell
    have fm := Bm.free
    have lm_W2 := Bm.lt
    have kaW2 : Acc w W2 := by
      refine Acc.call ?_ hb
      (repeat' (first | (with_reducible first | assumption | exact Acc.refl _ | refine Acc.drew ?_ | refine Acc.drewN ?_ _ | refine Acc.alloc ?_ _ | refine Acc.setCell ?_ ?_ _) | (refine leB ?_; omega)))
    clear hb
    go_wp2_with fail
    refine (specPhase_0 _).mono ?_
    rintro e W3 ⟨rfl, hb⟩
    have Bm : Blk W3 (W1.heap.size) [.int .i64 a1, .int .i64 a2, .int .i64 a3, .int .i64 a4, .int .i64 a5, .int .i64 a6, .int .i64 a7, .int .i64 a8, .int .i64 a9, .int .i64 a10, .int .i64 a11, .int .i64 a12] := Blk.keep hb (by repeat' (first | (with_reducible first | assumption | refine Blk.drew ?_ | refine Blk.drewN ?_ _ | apply Blk.set | (refine Blk.new ?_; focus (first | rfl | (simp; done))) | refine Blk.alloc ?_ _ | refine Blk.other ?_ ?_ _) | exact eqL rfl | (refine neB ?_; omega)))
    have cm := Bm.cell
    have fm := Bm.free
    have lm_W3 := Bm.lt
    have kaW3 : Acc w W3 := by
      refine Acc.call ?_ hb
      (repeat' (first | (with_reducible first | assumption | exact Acc.refl _ | refine Acc.drew ?_ | refine Acc.drewN ?_ _ | refine Acc.alloc ?_ _ | refine Acc.setCell ?_ ?_ _) | (refine leB ?_; omega)))
    clear hb
    go_wp2_with fail
    refine (specOne_any 1 0 1 1 0 1 _).mono ?_
    rintro e W4 ⟨rfl, hb⟩
    have Bm : Blk W4 (W1.heap.size) [.int .i64 a1, .int .i64 a2, .int .i64 a3, .int .i64 a4, .int .i64 a5, .int .i64 a6, .int .i64 a7, .int .i64 a8, .int .i64 a9, .int .i64 a10, .int .i64 a11, .int .i64 a12] := Blk.keep hb (by repeat' (first | (with_reducible first | assumption | refine Blk.drew ?_ | refine Blk.drewN ?_ _ | apply Blk.set | (refine Blk.new ?_; focus (first | rfl | (simp; done))) | refine Blk.alloc ?_ _ | refine Blk.other ?_ ?_ _) | exact eqL rfl | (refine neB ?_; omega)))
    have cm := Bm.cell
    have fm := Bm.free
    have lm_W4 := Bm.lt
    have kaW4 : Acc w W4 := by
      refine Acc.call ?_ hb
      (repeat' (first | (with_reducible first | assumption | exact Acc.refl _ | refine Acc.drew ?_ | refine Acc.drewN ?_ _ | refine Acc.alloc ?_ _ | refine Acc.setCell ?_ ?_ _) | (refine leB ?_; omega)))
    clear hb
    go_wp2_with fail
    have kas : w.heap.size ≤ W4.heap.size := kaW4.size
    go_loopw [8] (fun i wr => ∃ (j k : Nat) (X : F4), j + k = 24 ∧ i = .int .i64 ((j : Int) + 1) ∧ Acc w wr ∧ Blk wr (W1.heap.size) [.int .i64 a1, .int .i64 a2, .int .i64 a3, .int .i64 a4, .int .i64 a5, .int .i64 a6, .int .i64 a7, .int .i64 a8, .int .i64 a9, .int .i64 a10, .int .i64 a11, .int .i64 a12] ∧ Blk wr (W4.heap.size) [.int .i64 1, .int .i64 0, .int .i64 1, .int .i64 0, .int .i64 0, .int .i64 1, .int .i64 0, .int .i64 0, .int .i64 1, .int .i64 1, .int .i64 0, .int .i64 1] ∧ Blk wr (W4.heap.size + 1) [.int .i64 X.1.1, .int .i64 X.1.2.1, .int .i64 X.1.2.2, .int .i64 X.2.1.1, .int .i64 X.2.1.2.1, .int .i64 X.2.1.2.2, .int .i64 X.2.2.1.1, .int .i64 X.2.2.1.2.1, .int .i64 X.2.2.1.2.2, .int .i64 X.2.2.2.1, .int .i64 X.2.2.2.2.1, .int .i64 X.2.2.2.2.2] ∧ ordG ((a1, a2, a3), (a4, a5, a6), (a7, a8, a9), (a10, a11, a12)) k X = n) (fun i _ => 25 - (intOf i).toNat)
    case atStart => exact ⟨0, 24, ((a1, a2, a3), (a4, a5, a6), (a7, a8, a9), (a10, a11, a12)), rfl, rfl, (by show Acc w _; repeat' (first | (with_reducible first | assumption | exact Acc.refl _ | refine Acc.drew ?_ | refine Acc.drewN ?_ _ | refine Acc.alloc ?_ _ | refine Acc.setCell ?_ ?_ _) | (refine leB ?_; omega))), (by repeat' (first | (with_reducible first | assumption | refine Blk.drew ?_ | refine Blk.drewN ?_ _ | apply Blk.set | (refine Blk.new ?_; focus (first | rfl | (simp; done))) | refine Blk.alloc ?_ _ | refine Blk.other ?_ ?_ _) | exact eqL rfl | (refine neB ?_; omega))), (by repeat' (first | (with_reducible first | assumption | refine Blk.drew ?_ | refine Blk.drewN ?_ _ | apply Blk.set | (refine Blk.new ?_; focus (first | rfl | (simp; done))) | refine Blk.alloc ?_ _ | refine Blk.other ?_ ?_ _) | exact eqL rfl | (refine neB ?_; omega))), (by repeat' (first | (with_reducible first | assumption | refine Blk.drew ?_ | refine Blk.drewN ?_ _ | apply Blk.set | (refine Blk.new ?_; focus (first | rfl | (simp; done))) | refine Blk.alloc ?_ _ | refine Blk.other ?_ ?_ _) | exact eqL rfl | (refine neB ?_; omega))), HN.out⟩
    case round =>
      clear Bm cm fm
      obtain ⟨j, k, X, hjk, rfl, ka, Bm, Bo, Bp, hx⟩ := hrel
      obtain ⟨⟨b1, b2, b3⟩, ⟨b4, b5, b6⟩, ⟨b7, b8, b9⟩, b10, b11, b12⟩ := X
      dsimp only at Bp
      have HX := Lib.hid hx
      clear hx
      have cm := Bm.cell
      have fm := Bm.free
      have lm_wr := Bm.lt
      have co := Bo.cell
      have fo := Bo.free
      have lo_wr := Bo.lt
      have cp := Bp.cell
      have fp := Bp.free
      have lp_wr := Bp.lt
      cases k with
      | zero =>
        obtain rfl : n = 0 := HX.out.symm.trans (ordG_zero _ _)
        obtain rfl : j = 24 := by omega
        go_wp2_with fail
        refine bodyPost_ret (by conv => lhs; simp [results, Tryz.results17, go_sem, *]) rfl ⟨fun _ h => (by cases h; rfl), fun h => (by cases h), ?_⟩
        show Acc w _
        (repeat' (first | (with_reducible first | assumption | exact Acc.refl _ | refine Acc.drew ?_ | refine Acc.drewN ?_ _ | refine Acc.alloc ?_ _ | refine Acc.setCell ?_ ?_ _) | (refine leB ?_; omega)))
      | succ k =>
        have hj0 : ¬ (24 : Int) < (j : Int) + 1 := by omega
        have hj1 : (j : Int) + 1 ≤ 24 := by omega
        obtain ⟨u, hu⟩ : ∃ u, alkM ((b1, b2, b3), (b4, b5, b6), (b7, b8, b9), (b10, b11, b12)) oneM = u := ⟨_, rfl⟩
        have HU := Lib.hid hu
        clear hu
        have TA := Lib.hid fun w => valid_at HU.out (specMAlike_any b1 b2 b3 b4 b5 b6 b7 b8 b9 b10 b11 b12 1 0 1 0 0 1 0 0 1 1 0 1 w)
        go_wp2_with fail
        refine (TA.out _).mono ?_
        rintro e W5 ⟨rfl, hb⟩
        have Bm : Blk W5 (W1.heap.size) [.int .i64 a1, .int .i64 a2, .int .i64 a3, .int .i64 a4, .int .i64 a5, .int .i64 a6, .int .i64 a7, .int .i64 a8, .int .i64 a9, .int .i64 a10, .int .i64 a11, .int .i64 a12] := Blk.keep hb (by repeat' (first | (with_reducible first | assumption | refine Blk.drew ?_ | refine Blk.drewN ?_ _ | apply Blk.set | (refine Blk.new ?_; focus (first | rfl | (simp; done))) | refine Blk.alloc ?_ _ | refine Blk.other ?_ ?_ _) | exact eqL rfl | (refine neB ?_; omega)))
        have Bo : Blk W5 (W4.heap.size) [.int .i64 1, .int .i64 0, .int .i64 1, .int .i64 0, .int .i64 0, .int .i64 1, .int .i64 0, .int .i64 0, .int .i64 1, .int .i64 1, .int .i64 0, .int .i64 1] := Blk.keep hb (by repeat' (first | (with_reducible first | assumption | refine Blk.drew ?_ | refine Blk.drewN ?_ _ | apply Blk.set | (refine Blk.new ?_; focus (first | rfl | (simp; done))) | refine Blk.alloc ?_ _ | refine Blk.other ?_ ?_ _) | exact eqL rfl | (refine neB ?_; omega)))
        have Bp : Blk W5 (W4.heap.size + 1) [.int .i64 b1, .int .i64 b2, .int .i64 b3, .int .i64 b4, .int .i64 b5, .int .i64 b6, .int .i64 b7, .int .i64 b8, .int .i64 b9, .int .i64 b10, .int .i64 b11, .int .i64 b12] := Blk.keep hb (by repeat' (first | (with_reducible first | assumption | refine Blk.drew ?_ | refine Blk.drewN ?_ _ | apply Blk.set | (refine Blk.new ?_; focus (first | rfl | (simp; done))) | refine Blk.alloc ?_ _ | refine Blk.other ?_ ?_ _) | exact eqL rfl | (refine neB ?_; omega)))
        have cm := Bm.cell
        have fm := Bm.free
        have lm_W5 := Bm.lt
        have co := Bo.cell
        have fo := Bo.free
        have lo_W5 := Bo.lt
        have cp := Bp.cell
        have fp := Bp.free
        have lp_W5 := Bp.lt
        have kaW5 : Acc w W5 := by
          refine Acc.call ?_ hb
          (repeat' (first | (with_reducible first | assumption | exact Acc.refl _ | refine Acc.drew ?_ | refine Acc.drewN ?_ _ | refine Acc.alloc ?_ _ | refine Acc.setCell ?_ ?_ _) | (refine leB ?_; omega)))
        clear hb
        cases u with
        | false =>
          obtain ⟨r1, r2, r3, r4, r5, r6, r7, r8, r9, r10, r11, r12, kc, hc1, hc2, hcv⟩ := gave12_at (mulM ((a1, a2, a3), (a4, a5, a6), (a7, a8, a9), (a10, a11, a12)) ((b1, b2, b3), (b4, b5, b6), (b7, b8, b9), (b10, b11, b12)))
          have TC := Lib.hid fun w => hcv _ _ _ w (specMTimes_any a1 a2 a3 a4 a5 a6 a7 a8 a9 a10 a11 a12 b1 b2 b3 b4 b5 b6 b7 b8 b9 b10 b11 b12 w)
          have C1 := Lib.hid hc1
          have C2 := Lib.hid hc2
          clear hc1 hc2 hcv
          go_wp2_with fail
          refine (TC.out _).mono ?_
          rintro e W6 ⟨rfl, hb⟩
          have Bm : Blk W6 (W1.heap.size) [.int .i64 a1, .int .i64 a2, .int .i64 a3, .int .i64 a4, .int .i64 a5, .int .i64 a6, .int .i64 a7, .int .i64 a8, .int .i64 a9, .int .i64 a10, .int .i64 a11, .int .i64 a12] := Blk.keep hb (by repeat' (first | (with_reducible first | assumption | refine Blk.drew ?_ | refine Blk.drewN ?_ _ | apply Blk.set | (refine Blk.new ?_; focus (first | rfl | (simp; done))) | refine Blk.alloc ?_ _ | refine Blk.other ?_ ?_ _) | exact eqL rfl | (refine neB ?_; omega)))
          have Bo : Blk W6 (W4.heap.size) [.int .i64 1, .int .i64 0, .int .i64 1, .int .i64 0, .int .i64 0, .int .i64 1, .int .i64 0, .int .i64 0, .int .i64 1, .int .i64 1, .int .i64 0, .int .i64 1] := Blk.keep hb (by repeat' (first | (with_reducible first | assumption | refine Blk.drew ?_ | refine Blk.drewN ?_ _ | apply Blk.set | (refine Blk.new ?_; focus (first | rfl | (simp; done))) | refine Blk.alloc ?_ _ | refine Blk.other ?_ ?_ _) | exact eqL rfl | (refine neB ?_; omega)))
          have Bp : Blk W6 (W4.heap.size + 1) [.int .i64 b1, .int .i64 b2, .int .i64 b3, .int .i64 b4, .int .i64 b5, .int .i64 b6, .int .i64 b7, .int .i64 b8, .int .i64 b9, .int .i64 b10, .int .i64 b11, .int .i64 b12] := Blk.keep hb (by repeat' (first | (with_reducible first | assumption | refine Blk.drew ?_ | refine Blk.drewN ?_ _ | apply Blk.set | (refine Blk.new ?_; focus (first | rfl | (simp; done))) | refine Blk.alloc ?_ _ | refine Blk.other ?_ ?_ _) | exact eqL rfl | (refine neB ?_; omega)))
          have cm := Bm.cell
          have fm := Bm.free
          have lm_W6 := Bm.lt
          have co := Bo.cell
          have fo := Bo.free
          have lo_W6 := Bo.lt
          have cp := Bp.cell
          have fp := Bp.free
          have lp_W6 := Bp.lt
          have kaW6 : Acc w W6 := by
            refine Acc.call ?_ hb
            (repeat' (first | (with_reducible first | assumption | exact Acc.refl _ | refine Acc.drew ?_ | refine Acc.drewN ?_ _ | refine Acc.alloc ?_ _ | refine Acc.setCell ?_ ?_ _) | (refine leB ?_; omega)))
          clear hb
          cases kc with
          | false =>
            obtain rfl : n = 0 := HX.out.symm.trans (ordG_none HU.out (C2.out rfl))
            go_wp2_with fail
            refine bodyPost_ret (by conv => lhs; simp [results, Tryz.results17, go_sem, *]) rfl ⟨fun _ h => (by cases h; rfl), fun h => (by cases h), ?_⟩
            show Acc w _
            (repeat' (first | (with_reducible first | assumption | exact Acc.refl _ | refine Acc.drew ?_ | refine Acc.drewN ?_ _ | refine Acc.alloc ?_ _ | refine Acc.setCell ?_ ?_ _) | (refine leB ?_; omega)))
          | true =>
            have HZ := Lib.hid ((ordG_some HU.out (C1.out rfl)).symm.trans HX.out)
            clear C1 C2
            go_wp2_with fail
            go_roundw
            case rel => exact ⟨j + 1, k, ((r1, r2, r3), (r4, r5, r6), (r7, r8, r9), (r10, r11, r12)), by omega, by go_num, (by show Acc w _; repeat' (first | (with_reducible first | assumption | exact Acc.refl _ | refine Acc.drew ?_ | refine Acc.drewN ?_ _ | refine Acc.alloc ?_ _ | refine Acc.setCell ?_ ?_ _) | (refine leB ?_; omega))), (by repeat' (first | (with_reducible first | assumption | refine Blk.drew ?_ | refine Blk.drewN ?_ _ | apply Blk.set | (refine Blk.new ?_; focus (first | rfl | (simp; done))) | refine Blk.alloc ?_ _ | refine Blk.other ?_ ?_ _) | exact eqL rfl | (refine neB ?_; omega))), (by repeat' (first | (with_reducible first | assumption | refine Blk.drew ?_ | refine Blk.drewN ?_ _ | apply Blk.set | (refine Blk.new ?_; focus (first | rfl | (simp; done))) | refine Blk.alloc ?_ _ | refine Blk.other ?_ ?_ _) | exact eqL rfl | (refine neB ?_; omega))), (by repeat' (first | (with_reducible first | assumption | refine Blk.drew ?_ | refine Blk.drewN ?_ _ | apply Blk.set | (refine Blk.new ?_; focus (first | rfl | (simp; done))) | refine Blk.alloc ?_ _ | refine Blk.other ?_ ?_ _) | exact eqL rfl | (refine neB ?_; omega))), HZ.out⟩
            case measure => simp [intOf]; omega
        | true =>
          obtain rfl : n = (j : Int) + 1 := HX.out.symm.trans ((ordG_yes HU.out).trans (by omega))
          go_wp2_with fail
          refine bodyPost_ret (by conv => lhs; simp [results, Tryz.results17, go_sem, *]) rfl ⟨fun _ h => (by cases h; rfl), fun h => (by cases h), ?_⟩
          show Acc w _
          (repeat' (first | (with_reducible first | assumption | exact Acc.refl _ | refine Acc.drew ?_ | refine Acc.drewN ?_ _ | refine Acc.alloc ?_ _ | refine Acc.setCell ?_ ?_ _) | (refine leB ?_; omega)))
end Go.Proofs.YtkiggkmbgkonmaaGreatDoor
