/-
  The model: films: both powers.
-/
import Derived.Test.YtpgklllgmfaekaaGreatDoorSpecF4
import Derived.Test.YtpgklllgmfaekaaGreatDoorBSpecF
import Derived.Deep.RegionHeld3
import Derived.Test.YtpgklllgmfaekaaGreatDoorFlag
namespace Go.Proofs.YtpgklllgmfaekaaGreatDoor
open Go.ChangeShapes Go.WideShapes Go.ChangeAt Go.RowKit
set_option linter.unusedVariables false

set_option linter.unusedSimpArgs false
/-- Two fractions told, or none. -/
def Gave33 (o : Option (F3 × F3)) (w : World) (e : Ending) (w' : World) : Prop :=
  (∀ u1 u2 u3 v1 v2 v3, o = some ((u1, u2, u3), (v1, v2, v3)) → e = .returned (.tuple #[.agg #[.int .i64 u1, .int .i64 u2, .int .i64 u3], .agg #[.int .i64 v1, .int .i64 v2, .int .i64 v3], .bool true])) ∧ (o = none → e = .returned (.tuple #[.agg #[.int .i64 0, .int .i64 0, .int .i64 0], .agg #[.int .i64 0, .int .i64 0, .int .i64 0], .bool false])) ∧ Below w.heap.size w w'
theorem gave33_at (o : Option (F3 × F3)) : ∃ r1 r2 r3 r4 r5 r6 : Int, ∃ k : Bool, ∀ P f ar w, Calls P f ar w (Gave33 o w) → Calls P f ar w fun e w' => e = .returned (.tuple #[.agg #[.int .i64 r1, .int .i64 r2, .int .i64 r3], .agg #[.int .i64 r4, .int .i64 r5, .int .i64 r6], .bool k]) ∧ Below w.heap.size w w' := by
  cases o with
  | none => exact ⟨0, 0, 0, 0, 0, 0, false, fun P f ar w c => c.mono fun e w' h => ⟨h.2.1 rfl, h.2.2⟩⟩
  | some v =>
    obtain ⟨⟨u1, u2, u3⟩, u4, u5, u6⟩ := v
    exact ⟨u1, u2, u3, u4, u5, u6, true, fun P f ar w c => c.mono fun e w' h => ⟨h.1 _ _ _ _ _ _ rfl, h.2.2⟩⟩
set_option maxHeartbeats 2000000 in
theorem specReal_any (x1 x2 x3 : Int) (w : World) : Calls Tryz.prog 15 #[.agg #[.int .i64 x1, .int .i64 x2, .int .i64 x3]] w (Gave (makeF x1 0 x3) w) := by
  obtain ⟨⟨m1, m2, m3⟩, hv⟩ : ∃ o, partsR (makeF x1 0 x3) = o := ⟨_, rfl⟩
  obtain ⟨km, hk⟩ : ∃ k, okR (makeF x1 0 x3) = k := ⟨_, rfl⟩
  have Cm := Lib.hid hv
  have Dm := Lib.hid hk
  clear hv hk
  go_enter Tryz.func15, Tryz.ntmps15
  go_wp2_with fail
  refine (gave_any Cm.out Dm.out (specMake_any x1 0 x3 _)).mono ?_
  rintro e W1 ⟨rfl, hb⟩
  obtain ⟨Ba, Br⟩ : Blk W1 (w.heap.size) [.int .i64 x1, .int .i64 x2, .int .i64 x3] ∧ Blk W1 (w.heap.size + 1) [.int .i64 0, .int .i64 0, .int .i64 0] := by
    refine ⟨?_, ?_⟩ <;> refine Blk.keep hb ?_ <;> (repeat' (first | (with_reducible first | assumption | refine Blk.drew ?_ | refine Blk.drewN ?_ _ | apply Blk.set | (refine Blk.new ?_; focus (first | rfl | (simp; done))) | refine Blk.alloc ?_ _ | refine Blk.other ?_ ?_ _) | exact eqL rfl | (refine neB ?_; omega)))
  have ca := Ba.cell
  have fa := Ba.free
  have la_W1 := Ba.lt
  have cr := Br.cell
  have fr := Br.free
  have lr_W1 := Br.lt
  have kaW1 : Acc w W1 := by
    refine Acc.call ?_ hb
    (repeat' (first | (with_reducible first | assumption | exact Acc.refl _ | refine Acc.drew ?_ | refine Acc.drewN ?_ _ | refine Acc.alloc ?_ _ | refine Acc.setCell ?_ ?_ _) | (refine leB ?_; omega)))
  clear hb
  go_wp2_with fail
  refine bodyPost_ret (v := .tuple #[.agg #[.int .i64 m1, .int .i64 m2, .int .i64 m3], .bool km]) (by simp [results, Tryz.results15, go_sem, *]) rfl ⟨by rw [resV_eq, Cm.out, Dm.out], ?_⟩
  show Acc w _
  (repeat' (first | (with_reducible first | assumption | exact Acc.refl _ | refine Acc.drew ?_ | refine Acc.drewN ?_ _ | refine Acc.alloc ?_ _ | refine Acc.setCell ?_ ?_ _) | (refine leB ?_; omega)))
set_option maxRecDepth 100000 in
set_option maxHeartbeats 32000000 in
theorem specFlPow_any (a : Option Addr) (ls : List L4) (cap : Nat) (x1 x2 x3 y1 y2 y3 : Int) (w : World) (h : Lys w a ls) (hn : ls.length ≤ 1048576) : Calls Tryz.prog 6 #[.slice a ls.length cap, .agg #[.int .i64 x1, .int .i64 x2, .int .i64 x3], .agg #[.int .i64 y1, .int .i64 y2, .int .i64 y3]] w (Gave33 (powM ls (x1, x2, x3) (y1, y2, y3)) w) := by
  have HK := Lib.hid fun (W : World) (ka : Acc w W) => h.keep ka
  clear h
  obtain ⟨⟨r1, r2, r3⟩, hv⟩ : ∃ o, partsR (refM ls (x1, x2, x3) (y1, y2, y3)) = o := ⟨_, rfl⟩
  obtain ⟨kr, hk⟩ : ∃ k, okR (refM ls (x1, x2, x3) (y1, y2, y3)) = k := ⟨_, rfl⟩
  have Cr := Lib.hid hv
  have Dr := Lib.hid hk
  clear hv hk
  obtain ⟨⟨t1, t2, t3⟩, hv⟩ : ∃ o, partsR (pasM ls (x1, x2, x3) (y1, y2, y3)) = o := ⟨_, rfl⟩
  obtain ⟨kt, hk⟩ : ∃ k, okR (pasM ls (x1, x2, x3) (y1, y2, y3)) = k := ⟨_, rfl⟩
  have Ct := Lib.hid hv
  have Dt := Lib.hid hk
  clear hv hk
  obtain ⟨⟨p1, p2, p3⟩, hv⟩ : ∃ o, partsR (powerF r1 r2 r3) = o := ⟨_, rfl⟩
  obtain ⟨kp, hk⟩ : ∃ k, okR (powerF r1 r2 r3) = k := ⟨_, rfl⟩
  have Cp := Lib.hid hv
  have Dp := Lib.hid hk
  clear hv hk
  obtain ⟨⟨q1, q2, q3⟩, hv⟩ : ∃ o, partsR (powerF t1 t2 t3) = o := ⟨_, rfl⟩
  obtain ⟨kq, hk⟩ : ∃ k, okR (powerF t1 t2 t3) = k := ⟨_, rfl⟩
  have Cq := Lib.hid hv
  have Dq := Lib.hid hk
  clear hv hk
  obtain ⟨⟨m1, m2, m3⟩, hv⟩ : ∃ o, partsR (makeF x1 0 x3) = o := ⟨_, rfl⟩
  obtain ⟨km, hk⟩ : ∃ k, okR (makeF x1 0 x3) = k := ⟨_, rfl⟩
  have Cm := Lib.hid hv
  have Dm := Lib.hid hk
  clear hv hk
  obtain ⟨⟨n1, n2, n3⟩, hv⟩ : ∃ o, partsR (makeF y1 0 y3) = o := ⟨_, rfl⟩
  obtain ⟨kn, hk⟩ : ∃ k, okR (makeF y1 0 y3) = k := ⟨_, rfl⟩
  have Cn := Lib.hid hv
  have Dn := Lib.hid hk
  clear hv hk
  obtain ⟨⟨z1, z2, z3⟩, hv⟩ : ∃ o, partsR (timesF q1 q2 q3 n1 n2 n3) = o := ⟨_, rfl⟩
  obtain ⟨kz, hk⟩ : ∃ k, okR (timesF q1 q2 q3 n1 n2 n3) = k := ⟨_, rfl⟩
  have Cz := Lib.hid hv
  have Dz := Lib.hid hk
  clear hv hk
  obtain ⟨⟨l1, l2, l3⟩, hv⟩ : ∃ o, partsR (overF z1 z2 z3 m1 m2 m3) = o := ⟨_, rfl⟩
  obtain ⟨kl, hk⟩ : ∃ k, okR (overF z1 z2 z3 m1 m2 m3) = k := ⟨_, rfl⟩
  have Cl := Lib.hid hv
  have Dl := Lib.hid hk
  clear hv hk
  obtain ⟨o, E⟩ : ∃ o, powM ls (x1, x2, x3) (y1, y2, y3) = o := ⟨_, rfl⟩
  rw [E]
  have HE := Lib.hid E
  clear E
  go_enter Tryz.func6, Tryz.ntmps6
  go_wp2_with fail
  refine (gave_any Cr.out Dr.out (specFlRef_any a ls cap x1 x2 x3 y1 y2 y3 _ (HK.out _ (by repeat' (first | (with_reducible first | assumption | exact Acc.refl _ | refine Acc.drew ?_ | refine Acc.drewN ?_ _ | refine Acc.alloc ?_ _ | refine Acc.setCell ?_ ?_ _) | (refine leB ?_; omega)))) hn)).mono ?_
  rintro e W1 ⟨rfl, hb⟩
  have Ba : Blk W1 (w.heap.size) [.int .i64 x1, .int .i64 x2, .int .i64 x3] := Blk.keep hb (by repeat' (first | (with_reducible first | assumption | refine Blk.drew ?_ | refine Blk.drewN ?_ _ | apply Blk.set | (refine Blk.new ?_; focus (first | rfl | (simp; done))) | refine Blk.alloc ?_ _ | refine Blk.other ?_ ?_ _) | exact eqL rfl | (refine neB ?_; omega)))
  have Bb : Blk W1 (w.heap.size + 1) [.int .i64 y1, .int .i64 y2, .int .i64 y3] := Blk.keep hb (by repeat' (first | (with_reducible first | assumption | refine Blk.drew ?_ | refine Blk.drewN ?_ _ | apply Blk.set | (refine Blk.new ?_; focus (first | rfl | (simp; done))) | refine Blk.alloc ?_ _ | refine Blk.other ?_ ?_ _) | exact eqL rfl | (refine neB ?_; omega)))
  have Br : Blk W1 (w.heap.size + 1 + 1) [.int .i64 0, .int .i64 0, .int .i64 0] := Blk.keep hb (by repeat' (first | (with_reducible first | assumption | refine Blk.drew ?_ | refine Blk.drewN ?_ _ | apply Blk.set | (refine Blk.new ?_; focus (first | rfl | (simp; done))) | refine Blk.alloc ?_ _ | refine Blk.other ?_ ?_ _) | exact eqL rfl | (refine neB ?_; omega)))
  have Bs : Blk W1 (w.heap.size + 1 + 1 + 1) [.int .i64 0, .int .i64 0, .int .i64 0] := Blk.keep hb (by repeat' (first | (with_reducible first | assumption | refine Blk.drew ?_ | refine Blk.drewN ?_ _ | apply Blk.set | (refine Blk.new ?_; focus (first | rfl | (simp; done))) | refine Blk.alloc ?_ _ | refine Blk.other ?_ ?_ _) | exact eqL rfl | (refine neB ?_; omega)))
  have ca := Ba.cell
  have fa := Ba.free
  have la_W1 := Ba.lt
  have cb := Bb.cell
  have fb := Bb.free
  have lb_W1 := Bb.lt
  have cr := Br.cell
  have fr := Br.free
  have lr_W1 := Br.lt
  have cs := Bs.cell
  have fs := Bs.free
  have ls_W1 := Bs.lt
  have kaW1 : Acc w W1 := by
    refine Acc.call ?_ hb
    (repeat' (first | (with_reducible first | assumption | exact Acc.refl _ | refine Acc.drew ?_ | refine Acc.drewN ?_ _ | refine Acc.alloc ?_ _ | refine Acc.setCell ?_ ?_ _) | (refine leB ?_; omega)))
  clear hb
  go_wp2_with fail
  refine (gave_any Ct.out Dt.out (specFlPas_any a ls cap x1 x2 x3 y1 y2 y3 _ (HK.out _ (by repeat' (first | (with_reducible first | assumption | exact Acc.refl _ | refine Acc.drew ?_ | refine Acc.drewN ?_ _ | refine Acc.alloc ?_ _ | refine Acc.setCell ?_ ?_ _) | (refine leB ?_; omega)))) hn)).mono ?_
  rintro e W2 ⟨rfl, hb⟩
  have Ba : Blk W2 (w.heap.size) [.int .i64 x1, .int .i64 x2, .int .i64 x3] := Blk.keep hb (by repeat' (first | (with_reducible first | assumption | refine Blk.drew ?_ | refine Blk.drewN ?_ _ | apply Blk.set | (refine Blk.new ?_; focus (first | rfl | (simp; done))) | refine Blk.alloc ?_ _ | refine Blk.other ?_ ?_ _) | exact eqL rfl | (refine neB ?_; omega)))
  have Bb : Blk W2 (w.heap.size + 1) [.int .i64 y1, .int .i64 y2, .int .i64 y3] := Blk.keep hb (by repeat' (first | (with_reducible first | assumption | refine Blk.drew ?_ | refine Blk.drewN ?_ _ | apply Blk.set | (refine Blk.new ?_; focus (first | rfl | (simp; done))) | refine Blk.alloc ?_ _ | refine Blk.other ?_ ?_ _) | exact eqL rfl | (refine neB ?_; omega)))
  have Br : Blk W2 (w.heap.size + 1 + 1) [.int .i64 0, .int .i64 0, .int .i64 0] := Blk.keep hb (by repeat' (first | (with_reducible first | assumption | refine Blk.drew ?_ | refine Blk.drewN ?_ _ | apply Blk.set | (refine Blk.new ?_; focus (first | rfl | (simp; done))) | refine Blk.alloc ?_ _ | refine Blk.other ?_ ?_ _) | exact eqL rfl | (refine neB ?_; omega)))
  have Bs : Blk W2 (w.heap.size + 1 + 1 + 1) [.int .i64 0, .int .i64 0, .int .i64 0] := Blk.keep hb (by repeat' (first | (with_reducible first | assumption | refine Blk.drew ?_ | refine Blk.drewN ?_ _ | apply Blk.set | (refine Blk.new ?_; focus (first | rfl | (simp; done))) | refine Blk.alloc ?_ _ | refine Blk.other ?_ ?_ _) | exact eqL rfl | (refine neB ?_; omega)))
  have Bp : Blk W2 (W1.heap.size) [.int .i64 r1, .int .i64 r2, .int .i64 r3] := Blk.keep hb (by repeat' (first | (with_reducible first | assumption | refine Blk.drew ?_ | refine Blk.drewN ?_ _ | apply Blk.set | (refine Blk.new ?_; focus (first | rfl | (simp; done))) | refine Blk.alloc ?_ _ | refine Blk.other ?_ ?_ _) | exact eqL rfl | (refine neB ?_; omega)))
  have ca := Ba.cell
  have fa := Ba.free
  have la_W2 := Ba.lt
  have cb := Bb.cell
  have fb := Bb.free
  have lb_W2 := Bb.lt
  have cr := Br.cell
  have fr := Br.free
  have lr_W2 := Br.lt
  have cs := Bs.cell
  have fs := Bs.free
  have ls_W2 := Bs.lt
  have cp := Bp.cell
  have fp := Bp.free
  have lp_W2 := Bp.lt
  have kaW2 : Acc w W2 := by
    refine Acc.call ?_ hb
    (repeat' (first | (with_reducible first | assumption | exact Acc.refl _ | refine Acc.drew ?_ | refine Acc.drewN ?_ _ | refine Acc.alloc ?_ _ | refine Acc.setCell ?_ ?_ _) | (refine leB ?_; omega)))
  clear hb
  cases kr with
  | false =>
    obtain rfl : o = none := HE.out.symm.trans (by
      unfold powM
      rw [show refM ls (x1, x2, x3) (y1, y2, y3) = none from none_of Dr.out]
      rfl
      )
    go_wp2_with fail
    refine bodyPost_ret (v := .tuple #[.agg #[.int .i64 0, .int .i64 0, .int .i64 0], .agg #[.int .i64 0, .int .i64 0, .int .i64 0], .bool false]) (by simp [results, Tryz.results6, go_sem, *]) rfl ⟨fun _ _ _ _ _ _ h => (by cases h), fun _ => rfl, ?_⟩
    show Acc w _
    (repeat' (first | (with_reducible first | assumption | exact Acc.refl _ | refine Acc.drew ?_ | refine Acc.drewN ?_ _ | refine Acc.alloc ?_ _ | refine Acc.setCell ?_ ?_ _) | (refine leB ?_; omega)))
  | true =>
    cases kt with
    | false =>
      obtain rfl : o = none := HE.out.symm.trans (by
        unfold powM
        rw [show refM ls (x1, x2, x3) (y1, y2, y3) = some (r1, r2, r3) from some_of Cr.out Dr.out, Option.bind_some]
        try dsimp only
        rw [show pasM ls (x1, x2, x3) (y1, y2, y3) = none from none_of Dt.out]
        rfl
        )
      go_wp2_with fail
      refine bodyPost_ret (v := .tuple #[.agg #[.int .i64 0, .int .i64 0, .int .i64 0], .agg #[.int .i64 0, .int .i64 0, .int .i64 0], .bool false]) (by simp [results, Tryz.results6, go_sem, *]) rfl ⟨fun _ _ _ _ _ _ h => (by cases h), fun _ => rfl, ?_⟩
      show Acc w _
      (repeat' (first | (with_reducible first | assumption | exact Acc.refl _ | refine Acc.drew ?_ | refine Acc.drewN ?_ _ | refine Acc.alloc ?_ _ | refine Acc.setCell ?_ ?_ _) | (refine leB ?_; omega)))
    | true =>
      go_wp2_with fail
      refine (gave_any Cp.out Dp.out (specPower_any r1 r2 r3 _)).mono ?_
      rintro e W3 ⟨rfl, hb⟩
      have Ba : Blk W3 (w.heap.size) [.int .i64 x1, .int .i64 x2, .int .i64 x3] := Blk.keep hb (by repeat' (first | (with_reducible first | assumption | refine Blk.drew ?_ | refine Blk.drewN ?_ _ | apply Blk.set | (refine Blk.new ?_; focus (first | rfl | (simp; done))) | refine Blk.alloc ?_ _ | refine Blk.other ?_ ?_ _) | exact eqL rfl | (refine neB ?_; omega)))
      have Bb : Blk W3 (w.heap.size + 1) [.int .i64 y1, .int .i64 y2, .int .i64 y3] := Blk.keep hb (by repeat' (first | (with_reducible first | assumption | refine Blk.drew ?_ | refine Blk.drewN ?_ _ | apply Blk.set | (refine Blk.new ?_; focus (first | rfl | (simp; done))) | refine Blk.alloc ?_ _ | refine Blk.other ?_ ?_ _) | exact eqL rfl | (refine neB ?_; omega)))
      have Br : Blk W3 (w.heap.size + 1 + 1) [.int .i64 0, .int .i64 0, .int .i64 0] := Blk.keep hb (by repeat' (first | (with_reducible first | assumption | refine Blk.drew ?_ | refine Blk.drewN ?_ _ | apply Blk.set | (refine Blk.new ?_; focus (first | rfl | (simp; done))) | refine Blk.alloc ?_ _ | refine Blk.other ?_ ?_ _) | exact eqL rfl | (refine neB ?_; omega)))
      have Bs : Blk W3 (w.heap.size + 1 + 1 + 1) [.int .i64 0, .int .i64 0, .int .i64 0] := Blk.keep hb (by repeat' (first | (with_reducible first | assumption | refine Blk.drew ?_ | refine Blk.drewN ?_ _ | apply Blk.set | (refine Blk.new ?_; focus (first | rfl | (simp; done))) | refine Blk.alloc ?_ _ | refine Blk.other ?_ ?_ _) | exact eqL rfl | (refine neB ?_; omega)))
      have Bp : Blk W3 (W1.heap.size) [.int .i64 r1, .int .i64 r2, .int .i64 r3] := Blk.keep hb (by repeat' (first | (with_reducible first | assumption | refine Blk.drew ?_ | refine Blk.drewN ?_ _ | apply Blk.set | (refine Blk.new ?_; focus (first | rfl | (simp; done))) | refine Blk.alloc ?_ _ | refine Blk.other ?_ ?_ _) | exact eqL rfl | (refine neB ?_; omega)))
      have Bt : Blk W3 (W2.heap.size) [.int .i64 t1, .int .i64 t2, .int .i64 t3] := Blk.keep hb (by repeat' (first | (with_reducible first | assumption | refine Blk.drew ?_ | refine Blk.drewN ?_ _ | apply Blk.set | (refine Blk.new ?_; focus (first | rfl | (simp; done))) | refine Blk.alloc ?_ _ | refine Blk.other ?_ ?_ _) | exact eqL rfl | (refine neB ?_; omega)))
      have ca := Ba.cell
      have fa := Ba.free
      have la_W3 := Ba.lt
      have cb := Bb.cell
      have fb := Bb.free
      have lb_W3 := Bb.lt
      have cr := Br.cell
      have fr := Br.free
      have lr_W3 := Br.lt
      have cs := Bs.cell
      have fs := Bs.free
      have ls_W3 := Bs.lt
      have cp := Bp.cell
      have fp := Bp.free
      have lp_W3 := Bp.lt
      have ct := Bt.cell
      have ft := Bt.free
      have lt_W3 := Bt.lt
      have kaW3 : Acc w W3 := by
        refine Acc.call ?_ hb
        (repeat' (first | (with_reducible first | assumption | exact Acc.refl _ | refine Acc.drew ?_ | refine Acc.drewN ?_ _ | refine Acc.alloc ?_ _ | refine Acc.setCell ?_ ?_ _) | (refine leB ?_; omega)))
      clear hb
      go_wp2_with fail
      refine (gave_any Cq.out Dq.out (specPower_any t1 t2 t3 _)).mono ?_
      rintro e W4 ⟨rfl, hb⟩
      have Ba : Blk W4 (w.heap.size) [.int .i64 x1, .int .i64 x2, .int .i64 x3] := Blk.keep hb (by repeat' (first | (with_reducible first | assumption | refine Blk.drew ?_ | refine Blk.drewN ?_ _ | apply Blk.set | (refine Blk.new ?_; focus (first | rfl | (simp; done))) | refine Blk.alloc ?_ _ | refine Blk.other ?_ ?_ _) | exact eqL rfl | (refine neB ?_; omega)))
      have Bb : Blk W4 (w.heap.size + 1) [.int .i64 y1, .int .i64 y2, .int .i64 y3] := Blk.keep hb (by repeat' (first | (with_reducible first | assumption | refine Blk.drew ?_ | refine Blk.drewN ?_ _ | apply Blk.set | (refine Blk.new ?_; focus (first | rfl | (simp; done))) | refine Blk.alloc ?_ _ | refine Blk.other ?_ ?_ _) | exact eqL rfl | (refine neB ?_; omega)))
      have Br : Blk W4 (w.heap.size + 1 + 1) [.int .i64 0, .int .i64 0, .int .i64 0] := Blk.keep hb (by repeat' (first | (with_reducible first | assumption | refine Blk.drew ?_ | refine Blk.drewN ?_ _ | apply Blk.set | (refine Blk.new ?_; focus (first | rfl | (simp; done))) | refine Blk.alloc ?_ _ | refine Blk.other ?_ ?_ _) | exact eqL rfl | (refine neB ?_; omega)))
      have Bs : Blk W4 (w.heap.size + 1 + 1 + 1) [.int .i64 0, .int .i64 0, .int .i64 0] := Blk.keep hb (by repeat' (first | (with_reducible first | assumption | refine Blk.drew ?_ | refine Blk.drewN ?_ _ | apply Blk.set | (refine Blk.new ?_; focus (first | rfl | (simp; done))) | refine Blk.alloc ?_ _ | refine Blk.other ?_ ?_ _) | exact eqL rfl | (refine neB ?_; omega)))
      have Bp : Blk W4 (W1.heap.size) [.int .i64 r1, .int .i64 r2, .int .i64 r3] := Blk.keep hb (by repeat' (first | (with_reducible first | assumption | refine Blk.drew ?_ | refine Blk.drewN ?_ _ | apply Blk.set | (refine Blk.new ?_; focus (first | rfl | (simp; done))) | refine Blk.alloc ?_ _ | refine Blk.other ?_ ?_ _) | exact eqL rfl | (refine neB ?_; omega)))
      have Bt : Blk W4 (W2.heap.size) [.int .i64 t1, .int .i64 t2, .int .i64 t3] := Blk.keep hb (by repeat' (first | (with_reducible first | assumption | refine Blk.drew ?_ | refine Blk.drewN ?_ _ | apply Blk.set | (refine Blk.new ?_; focus (first | rfl | (simp; done))) | refine Blk.alloc ?_ _ | refine Blk.other ?_ ?_ _) | exact eqL rfl | (refine neB ?_; omega)))
      have Bg : Blk W4 (W3.heap.size) [.int .i64 p1, .int .i64 p2, .int .i64 p3] := Blk.keep hb (by repeat' (first | (with_reducible first | assumption | refine Blk.drew ?_ | refine Blk.drewN ?_ _ | apply Blk.set | (refine Blk.new ?_; focus (first | rfl | (simp; done))) | refine Blk.alloc ?_ _ | refine Blk.other ?_ ?_ _) | exact eqL rfl | (refine neB ?_; omega)))
      have ca := Ba.cell
      have fa := Ba.free
      have la_W4 := Ba.lt
      have cb := Bb.cell
      have fb := Bb.free
      have lb_W4 := Bb.lt
      have cr := Br.cell
      have fr := Br.free
      have lr_W4 := Br.lt
      have cs := Bs.cell
      have fs := Bs.free
      have ls_W4 := Bs.lt
      have cp := Bp.cell
      have fp := Bp.free
      have lp_W4 := Bp.lt
      have ct := Bt.cell
      have ft := Bt.free
      have lt_W4 := Bt.lt
      have cg := Bg.cell
      have fg := Bg.free
      have lg_W4 := Bg.lt
      have kaW4 : Acc w W4 := by
        refine Acc.call ?_ hb
        (repeat' (first | (with_reducible first | assumption | exact Acc.refl _ | refine Acc.drew ?_ | refine Acc.drewN ?_ _ | refine Acc.alloc ?_ _ | refine Acc.setCell ?_ ?_ _) | (refine leB ?_; omega)))
      clear hb
      go_wp2_with fail
      refine (gave_any Cm.out Dm.out (specReal_any x1 x2 x3 _)).mono ?_
      rintro e W5 ⟨rfl, hb⟩
      have Ba : Blk W5 (w.heap.size) [.int .i64 x1, .int .i64 x2, .int .i64 x3] := Blk.keep hb (by repeat' (first | (with_reducible first | assumption | refine Blk.drew ?_ | refine Blk.drewN ?_ _ | apply Blk.set | (refine Blk.new ?_; focus (first | rfl | (simp; done))) | refine Blk.alloc ?_ _ | refine Blk.other ?_ ?_ _) | exact eqL rfl | (refine neB ?_; omega)))
      have Bb : Blk W5 (w.heap.size + 1) [.int .i64 y1, .int .i64 y2, .int .i64 y3] := Blk.keep hb (by repeat' (first | (with_reducible first | assumption | refine Blk.drew ?_ | refine Blk.drewN ?_ _ | apply Blk.set | (refine Blk.new ?_; focus (first | rfl | (simp; done))) | refine Blk.alloc ?_ _ | refine Blk.other ?_ ?_ _) | exact eqL rfl | (refine neB ?_; omega)))
      have Br : Blk W5 (w.heap.size + 1 + 1) [.int .i64 0, .int .i64 0, .int .i64 0] := Blk.keep hb (by repeat' (first | (with_reducible first | assumption | refine Blk.drew ?_ | refine Blk.drewN ?_ _ | apply Blk.set | (refine Blk.new ?_; focus (first | rfl | (simp; done))) | refine Blk.alloc ?_ _ | refine Blk.other ?_ ?_ _) | exact eqL rfl | (refine neB ?_; omega)))
      have Bs : Blk W5 (w.heap.size + 1 + 1 + 1) [.int .i64 0, .int .i64 0, .int .i64 0] := Blk.keep hb (by repeat' (first | (with_reducible first | assumption | refine Blk.drew ?_ | refine Blk.drewN ?_ _ | apply Blk.set | (refine Blk.new ?_; focus (first | rfl | (simp; done))) | refine Blk.alloc ?_ _ | refine Blk.other ?_ ?_ _) | exact eqL rfl | (refine neB ?_; omega)))
      have Bp : Blk W5 (W1.heap.size) [.int .i64 r1, .int .i64 r2, .int .i64 r3] := Blk.keep hb (by repeat' (first | (with_reducible first | assumption | refine Blk.drew ?_ | refine Blk.drewN ?_ _ | apply Blk.set | (refine Blk.new ?_; focus (first | rfl | (simp; done))) | refine Blk.alloc ?_ _ | refine Blk.other ?_ ?_ _) | exact eqL rfl | (refine neB ?_; omega)))
      have Bt : Blk W5 (W2.heap.size) [.int .i64 t1, .int .i64 t2, .int .i64 t3] := Blk.keep hb (by repeat' (first | (with_reducible first | assumption | refine Blk.drew ?_ | refine Blk.drewN ?_ _ | apply Blk.set | (refine Blk.new ?_; focus (first | rfl | (simp; done))) | refine Blk.alloc ?_ _ | refine Blk.other ?_ ?_ _) | exact eqL rfl | (refine neB ?_; omega)))
      have Bg : Blk W5 (W3.heap.size) [.int .i64 p1, .int .i64 p2, .int .i64 p3] := Blk.keep hb (by repeat' (first | (with_reducible first | assumption | refine Blk.drew ?_ | refine Blk.drewN ?_ _ | apply Blk.set | (refine Blk.new ?_; focus (first | rfl | (simp; done))) | refine Blk.alloc ?_ _ | refine Blk.other ?_ ?_ _) | exact eqL rfl | (refine neB ?_; omega)))
      have Bh : Blk W5 (W4.heap.size) [.int .i64 q1, .int .i64 q2, .int .i64 q3] := Blk.keep hb (by repeat' (first | (with_reducible first | assumption | refine Blk.drew ?_ | refine Blk.drewN ?_ _ | apply Blk.set | (refine Blk.new ?_; focus (first | rfl | (simp; done))) | refine Blk.alloc ?_ _ | refine Blk.other ?_ ?_ _) | exact eqL rfl | (refine neB ?_; omega)))
      have ca := Ba.cell
      have fa := Ba.free
      have la_W5 := Ba.lt
      have cb := Bb.cell
      have fb := Bb.free
      have lb_W5 := Bb.lt
      have cr := Br.cell
      have fr := Br.free
      have lr_W5 := Br.lt
      have cs := Bs.cell
      have fs := Bs.free
      have ls_W5 := Bs.lt
      have cp := Bp.cell
      have fp := Bp.free
      have lp_W5 := Bp.lt
      have ct := Bt.cell
      have ft := Bt.free
      have lt_W5 := Bt.lt
      have cg := Bg.cell
      have fg := Bg.free
      have lg_W5 := Bg.lt
      have ch := Bh.cell
      have fh := Bh.free
      have lh_W5 := Bh.lt
      have kaW5 : Acc w W5 := by
        refine Acc.call ?_ hb
        (repeat' (first | (with_reducible first | assumption | exact Acc.refl _ | refine Acc.drew ?_ | refine Acc.drewN ?_ _ | refine Acc.alloc ?_ _ | refine Acc.setCell ?_ ?_ _) | (refine leB ?_; omega)))
      clear hb
      go_wp2_with fail
      refine (gave_any Cn.out Dn.out (specReal_any y1 y2 y3 _)).mono ?_
      rintro e W6 ⟨rfl, hb⟩
      have Ba : Blk W6 (w.heap.size) [.int .i64 x1, .int .i64 x2, .int .i64 x3] := Blk.keep hb (by repeat' (first | (with_reducible first | assumption | refine Blk.drew ?_ | refine Blk.drewN ?_ _ | apply Blk.set | (refine Blk.new ?_; focus (first | rfl | (simp; done))) | refine Blk.alloc ?_ _ | refine Blk.other ?_ ?_ _) | exact eqL rfl | (refine neB ?_; omega)))
      have Bb : Blk W6 (w.heap.size + 1) [.int .i64 y1, .int .i64 y2, .int .i64 y3] := Blk.keep hb (by repeat' (first | (with_reducible first | assumption | refine Blk.drew ?_ | refine Blk.drewN ?_ _ | apply Blk.set | (refine Blk.new ?_; focus (first | rfl | (simp; done))) | refine Blk.alloc ?_ _ | refine Blk.other ?_ ?_ _) | exact eqL rfl | (refine neB ?_; omega)))
      have Br : Blk W6 (w.heap.size + 1 + 1) [.int .i64 0, .int .i64 0, .int .i64 0] := Blk.keep hb (by repeat' (first | (with_reducible first | assumption | refine Blk.drew ?_ | refine Blk.drewN ?_ _ | apply Blk.set | (refine Blk.new ?_; focus (first | rfl | (simp; done))) | refine Blk.alloc ?_ _ | refine Blk.other ?_ ?_ _) | exact eqL rfl | (refine neB ?_; omega)))
      have Bs : Blk W6 (w.heap.size + 1 + 1 + 1) [.int .i64 0, .int .i64 0, .int .i64 0] := Blk.keep hb (by repeat' (first | (with_reducible first | assumption | refine Blk.drew ?_ | refine Blk.drewN ?_ _ | apply Blk.set | (refine Blk.new ?_; focus (first | rfl | (simp; done))) | refine Blk.alloc ?_ _ | refine Blk.other ?_ ?_ _) | exact eqL rfl | (refine neB ?_; omega)))
      have Bp : Blk W6 (W1.heap.size) [.int .i64 r1, .int .i64 r2, .int .i64 r3] := Blk.keep hb (by repeat' (first | (with_reducible first | assumption | refine Blk.drew ?_ | refine Blk.drewN ?_ _ | apply Blk.set | (refine Blk.new ?_; focus (first | rfl | (simp; done))) | refine Blk.alloc ?_ _ | refine Blk.other ?_ ?_ _) | exact eqL rfl | (refine neB ?_; omega)))
      have Bt : Blk W6 (W2.heap.size) [.int .i64 t1, .int .i64 t2, .int .i64 t3] := Blk.keep hb (by repeat' (first | (with_reducible first | assumption | refine Blk.drew ?_ | refine Blk.drewN ?_ _ | apply Blk.set | (refine Blk.new ?_; focus (first | rfl | (simp; done))) | refine Blk.alloc ?_ _ | refine Blk.other ?_ ?_ _) | exact eqL rfl | (refine neB ?_; omega)))
      have Bg : Blk W6 (W3.heap.size) [.int .i64 p1, .int .i64 p2, .int .i64 p3] := Blk.keep hb (by repeat' (first | (with_reducible first | assumption | refine Blk.drew ?_ | refine Blk.drewN ?_ _ | apply Blk.set | (refine Blk.new ?_; focus (first | rfl | (simp; done))) | refine Blk.alloc ?_ _ | refine Blk.other ?_ ?_ _) | exact eqL rfl | (refine neB ?_; omega)))
      have Bh : Blk W6 (W4.heap.size) [.int .i64 q1, .int .i64 q2, .int .i64 q3] := Blk.keep hb (by repeat' (first | (with_reducible first | assumption | refine Blk.drew ?_ | refine Blk.drewN ?_ _ | apply Blk.set | (refine Blk.new ?_; focus (first | rfl | (simp; done))) | refine Blk.alloc ?_ _ | refine Blk.other ?_ ?_ _) | exact eqL rfl | (refine neB ?_; omega)))
      have Bm : Blk W6 (W5.heap.size) [.int .i64 m1, .int .i64 m2, .int .i64 m3] := Blk.keep hb (by repeat' (first | (with_reducible first | assumption | refine Blk.drew ?_ | refine Blk.drewN ?_ _ | apply Blk.set | (refine Blk.new ?_; focus (first | rfl | (simp; done))) | refine Blk.alloc ?_ _ | refine Blk.other ?_ ?_ _) | exact eqL rfl | (refine neB ?_; omega)))
      have ca := Ba.cell
      have fa := Ba.free
      have la_W6 := Ba.lt
      have cb := Bb.cell
      have fb := Bb.free
      have lb_W6 := Bb.lt
      have cr := Br.cell
      have fr := Br.free
      have lr_W6 := Br.lt
      have cs := Bs.cell
      have fs := Bs.free
      have ls_W6 := Bs.lt
      have cp := Bp.cell
      have fp := Bp.free
      have lp_W6 := Bp.lt
      have ct := Bt.cell
      have ft := Bt.free
      have lt_W6 := Bt.lt
      have cg := Bg.cell
      have fg := Bg.free
      have lg_W6 := Bg.lt
      have ch := Bh.cell
      have fh := Bh.free
      have lh_W6 := Bh.lt
      have cm := Bm.cell
      have fm := Bm.free
      have lm_W6 := Bm.lt
      have kaW6 : Acc w W6 := by
        refine Acc.call ?_ hb
        (repeat' (first | (with_reducible first | assumption | exact Acc.refl _ | refine Acc.drew ?_ | refine Acc.drewN ?_ _ | refine Acc.alloc ?_ _ | refine Acc.setCell ?_ ?_ _) | (refine leB ?_; omega)))
      clear hb
      cases kp with
      | false =>
        obtain rfl : o = none := HE.out.symm.trans (by
          unfold powM
          rw [show refM ls (x1, x2, x3) (y1, y2, y3) = some (r1, r2, r3) from some_of Cr.out Dr.out, Option.bind_some]
          try dsimp only
          rw [show pasM ls (x1, x2, x3) (y1, y2, y3) = some (t1, t2, t3) from some_of Ct.out Dt.out, Option.bind_some]
          try dsimp only
          rw [show powT (r1, r2, r3) = none from none_of Dp.out]
          rfl
          )
        go_wp2_with fail
        refine bodyPost_ret (v := .tuple #[.agg #[.int .i64 0, .int .i64 0, .int .i64 0], .agg #[.int .i64 0, .int .i64 0, .int .i64 0], .bool false]) (by simp [results, Tryz.results6, go_sem, *]) rfl ⟨fun _ _ _ _ _ _ h => (by cases h), fun _ => rfl, ?_⟩
        show Acc w _
        (repeat' (first | (with_reducible first | assumption | exact Acc.refl _ | refine Acc.drew ?_ | refine Acc.drewN ?_ _ | refine Acc.alloc ?_ _ | refine Acc.setCell ?_ ?_ _) | (refine leB ?_; omega)))
      | true =>
        cases kq with
        | false =>
          obtain rfl : o = none := HE.out.symm.trans (by
            unfold powM
            rw [show refM ls (x1, x2, x3) (y1, y2, y3) = some (r1, r2, r3) from some_of Cr.out Dr.out, Option.bind_some]
            try dsimp only
            rw [show pasM ls (x1, x2, x3) (y1, y2, y3) = some (t1, t2, t3) from some_of Ct.out Dt.out, Option.bind_some]
            try dsimp only
            rw [show powT (r1, r2, r3) = some (p1, p2, p3) from some_of Cp.out Dp.out, Option.bind_some]
            try dsimp only
            rw [show powT (t1, t2, t3) = none from none_of Dq.out]
            rfl
            )
          go_wp2_with fail
          refine bodyPost_ret (v := .tuple #[.agg #[.int .i64 0, .int .i64 0, .int .i64 0], .agg #[.int .i64 0, .int .i64 0, .int .i64 0], .bool false]) (by simp [results, Tryz.results6, go_sem, *]) rfl ⟨fun _ _ _ _ _ _ h => (by cases h), fun _ => rfl, ?_⟩
          show Acc w _
          (repeat' (first | (with_reducible first | assumption | exact Acc.refl _ | refine Acc.drew ?_ | refine Acc.drewN ?_ _ | refine Acc.alloc ?_ _ | refine Acc.setCell ?_ ?_ _) | (refine leB ?_; omega)))
        | true =>
          cases km with
          | false =>
            obtain rfl : o = none := HE.out.symm.trans (by
              unfold powM
              rw [show refM ls (x1, x2, x3) (y1, y2, y3) = some (r1, r2, r3) from some_of Cr.out Dr.out, Option.bind_some]
              try dsimp only
              rw [show pasM ls (x1, x2, x3) (y1, y2, y3) = some (t1, t2, t3) from some_of Ct.out Dt.out, Option.bind_some]
              try dsimp only
              rw [show powT (r1, r2, r3) = some (p1, p2, p3) from some_of Cp.out Dp.out, Option.bind_some]
              try dsimp only
              rw [show powT (t1, t2, t3) = some (q1, q2, q3) from some_of Cq.out Dq.out, Option.bind_some]
              try dsimp only
              rw [show makeT x1 x3 = none from none_of Dm.out]
              rfl
              )
            go_wp2_with fail
            refine bodyPost_ret (v := .tuple #[.agg #[.int .i64 0, .int .i64 0, .int .i64 0], .agg #[.int .i64 0, .int .i64 0, .int .i64 0], .bool false]) (by simp [results, Tryz.results6, go_sem, *]) rfl ⟨fun _ _ _ _ _ _ h => (by cases h), fun _ => rfl, ?_⟩
            show Acc w _
            (repeat' (first | (with_reducible first | assumption | exact Acc.refl _ | refine Acc.drew ?_ | refine Acc.drewN ?_ _ | refine Acc.alloc ?_ _ | refine Acc.setCell ?_ ?_ _) | (refine leB ?_; omega)))
          | true =>
            cases kn with
            | false =>
              obtain rfl : o = none := HE.out.symm.trans (by
                unfold powM
                rw [show refM ls (x1, x2, x3) (y1, y2, y3) = some (r1, r2, r3) from some_of Cr.out Dr.out, Option.bind_some]
                try dsimp only
                rw [show pasM ls (x1, x2, x3) (y1, y2, y3) = some (t1, t2, t3) from some_of Ct.out Dt.out, Option.bind_some]
                try dsimp only
                rw [show powT (r1, r2, r3) = some (p1, p2, p3) from some_of Cp.out Dp.out, Option.bind_some]
                try dsimp only
                rw [show powT (t1, t2, t3) = some (q1, q2, q3) from some_of Cq.out Dq.out, Option.bind_some]
                try dsimp only
                rw [show makeT x1 x3 = some (m1, m2, m3) from some_of Cm.out Dm.out, Option.bind_some]
                try dsimp only
                rw [show makeT y1 y3 = none from none_of Dn.out]
                rfl
                )
              go_wp2_with fail
              refine bodyPost_ret (v := .tuple #[.agg #[.int .i64 0, .int .i64 0, .int .i64 0], .agg #[.int .i64 0, .int .i64 0, .int .i64 0], .bool false]) (by simp [results, Tryz.results6, go_sem, *]) rfl ⟨fun _ _ _ _ _ _ h => (by cases h), fun _ => rfl, ?_⟩
              show Acc w _
              (repeat' (first | (with_reducible first | assumption | exact Acc.refl _ | refine Acc.drew ?_ | refine Acc.drewN ?_ _ | refine Acc.alloc ?_ _ | refine Acc.setCell ?_ ?_ _) | (refine leB ?_; omega)))
            | true =>
              go_wp2_with fail
              refine (gave_any Cz.out Dz.out (specTimes_any q1 q2 q3 n1 n2 n3 _)).mono ?_
              rintro e W7 ⟨rfl, hb⟩
              have Ba : Blk W7 (w.heap.size) [.int .i64 x1, .int .i64 x2, .int .i64 x3] := Blk.keep hb (by repeat' (first | (with_reducible first | assumption | refine Blk.drew ?_ | refine Blk.drewN ?_ _ | apply Blk.set | (refine Blk.new ?_; focus (first | rfl | (simp; done))) | refine Blk.alloc ?_ _ | refine Blk.other ?_ ?_ _) | exact eqL rfl | (refine neB ?_; omega)))
              have Bb : Blk W7 (w.heap.size + 1) [.int .i64 y1, .int .i64 y2, .int .i64 y3] := Blk.keep hb (by repeat' (first | (with_reducible first | assumption | refine Blk.drew ?_ | refine Blk.drewN ?_ _ | apply Blk.set | (refine Blk.new ?_; focus (first | rfl | (simp; done))) | refine Blk.alloc ?_ _ | refine Blk.other ?_ ?_ _) | exact eqL rfl | (refine neB ?_; omega)))
              have Br : Blk W7 (w.heap.size + 1 + 1) [.int .i64 0, .int .i64 0, .int .i64 0] := Blk.keep hb (by repeat' (first | (with_reducible first | assumption | refine Blk.drew ?_ | refine Blk.drewN ?_ _ | apply Blk.set | (refine Blk.new ?_; focus (first | rfl | (simp; done))) | refine Blk.alloc ?_ _ | refine Blk.other ?_ ?_ _) | exact eqL rfl | (refine neB ?_; omega)))
              have Bs : Blk W7 (w.heap.size + 1 + 1 + 1) [.int .i64 0, .int .i64 0, .int .i64 0] := Blk.keep hb (by repeat' (first | (with_reducible first | assumption | refine Blk.drew ?_ | refine Blk.drewN ?_ _ | apply Blk.set | (refine Blk.new ?_; focus (first | rfl | (simp; done))) | refine Blk.alloc ?_ _ | refine Blk.other ?_ ?_ _) | exact eqL rfl | (refine neB ?_; omega)))
              have Bp : Blk W7 (W1.heap.size) [.int .i64 r1, .int .i64 r2, .int .i64 r3] := Blk.keep hb (by repeat' (first | (with_reducible first | assumption | refine Blk.drew ?_ | refine Blk.drewN ?_ _ | apply Blk.set | (refine Blk.new ?_; focus (first | rfl | (simp; done))) | refine Blk.alloc ?_ _ | refine Blk.other ?_ ?_ _) | exact eqL rfl | (refine neB ?_; omega)))
              have Bt : Blk W7 (W2.heap.size) [.int .i64 t1, .int .i64 t2, .int .i64 t3] := Blk.keep hb (by repeat' (first | (with_reducible first | assumption | refine Blk.drew ?_ | refine Blk.drewN ?_ _ | apply Blk.set | (refine Blk.new ?_; focus (first | rfl | (simp; done))) | refine Blk.alloc ?_ _ | refine Blk.other ?_ ?_ _) | exact eqL rfl | (refine neB ?_; omega)))
              have Bg : Blk W7 (W3.heap.size) [.int .i64 p1, .int .i64 p2, .int .i64 p3] := Blk.keep hb (by repeat' (first | (with_reducible first | assumption | refine Blk.drew ?_ | refine Blk.drewN ?_ _ | apply Blk.set | (refine Blk.new ?_; focus (first | rfl | (simp; done))) | refine Blk.alloc ?_ _ | refine Blk.other ?_ ?_ _) | exact eqL rfl | (refine neB ?_; omega)))
              have Bh : Blk W7 (W4.heap.size) [.int .i64 q1, .int .i64 q2, .int .i64 q3] := Blk.keep hb (by repeat' (first | (with_reducible first | assumption | refine Blk.drew ?_ | refine Blk.drewN ?_ _ | apply Blk.set | (refine Blk.new ?_; focus (first | rfl | (simp; done))) | refine Blk.alloc ?_ _ | refine Blk.other ?_ ?_ _) | exact eqL rfl | (refine neB ?_; omega)))
              have Bm : Blk W7 (W5.heap.size) [.int .i64 m1, .int .i64 m2, .int .i64 m3] := Blk.keep hb (by repeat' (first | (with_reducible first | assumption | refine Blk.drew ?_ | refine Blk.drewN ?_ _ | apply Blk.set | (refine Blk.new ?_; focus (first | rfl | (simp; done))) | refine Blk.alloc ?_ _ | refine Blk.other ?_ ?_ _) | exact eqL rfl | (refine neB ?_; omega)))
              have Bn : Blk W7 (W6.heap.size) [.int .i64 n1, .int .i64 n2, .int .i64 n3] := Blk.keep hb (by repeat' (first | (with_reducible first | assumption | refine Blk.drew ?_ | refine Blk.drewN ?_ _ | apply Blk.set | (refine Blk.new ?_; focus (first | rfl | (simp; done))) | refine Blk.alloc ?_ _ | refine Blk.other ?_ ?_ _) | exact eqL rfl | (refine neB ?_; omega)))
              have ca := Ba.cell
              have fa := Ba.free
              have la_W7 := Ba.lt
              have cb := Bb.cell
              have fb := Bb.free
              have lb_W7 := Bb.lt
              have cr := Br.cell
              have fr := Br.free
              have lr_W7 := Br.lt
              have cs := Bs.cell
              have fs := Bs.free
              have ls_W7 := Bs.lt
              have cp := Bp.cell
              have fp := Bp.free
              have lp_W7 := Bp.lt
              have ct := Bt.cell
              have ft := Bt.free
              have lt_W7 := Bt.lt
              have cg := Bg.cell
              have fg := Bg.free
              have lg_W7 := Bg.lt
              have ch := Bh.cell
              have fh := Bh.free
              have lh_W7 := Bh.lt
              have cm := Bm.cell
              have fm := Bm.free
              have lm_W7 := Bm.lt
              have cn := Bn.cell
              have fn := Bn.free
              have ln_W7 := Bn.lt
              have kaW7 : Acc w W7 := by
                refine Acc.call ?_ hb
                (repeat' (first | (with_reducible first | assumption | exact Acc.refl _ | refine Acc.drew ?_ | refine Acc.drewN ?_ _ | refine Acc.alloc ?_ _ | refine Acc.setCell ?_ ?_ _) | (refine leB ?_; omega)))
              clear hb
              cases kz with
              | false =>
                obtain rfl : o = none := HE.out.symm.trans (by
                  unfold powM
                  rw [show refM ls (x1, x2, x3) (y1, y2, y3) = some (r1, r2, r3) from some_of Cr.out Dr.out, Option.bind_some]
                  try dsimp only
                  rw [show pasM ls (x1, x2, x3) (y1, y2, y3) = some (t1, t2, t3) from some_of Ct.out Dt.out, Option.bind_some]
                  try dsimp only
                  rw [show powT (r1, r2, r3) = some (p1, p2, p3) from some_of Cp.out Dp.out, Option.bind_some]
                  try dsimp only
                  rw [show powT (t1, t2, t3) = some (q1, q2, q3) from some_of Cq.out Dq.out, Option.bind_some]
                  try dsimp only
                  rw [show makeT x1 x3 = some (m1, m2, m3) from some_of Cm.out Dm.out, Option.bind_some]
                  try dsimp only
                  rw [show makeT y1 y3 = some (n1, n2, n3) from some_of Cn.out Dn.out, Option.bind_some]
                  try dsimp only
                  rw [show tT (q1, q2, q3) (n1, n2, n3) = none from none_of Dz.out]
                  rfl
                  )
                go_wp2_with fail
                refine bodyPost_ret (v := .tuple #[.agg #[.int .i64 0, .int .i64 0, .int .i64 0], .agg #[.int .i64 0, .int .i64 0, .int .i64 0], .bool false]) (by simp [results, Tryz.results6, go_sem, *]) rfl ⟨fun _ _ _ _ _ _ h => (by cases h), fun _ => rfl, ?_⟩
                show Acc w _
                (repeat' (first | (with_reducible first | assumption | exact Acc.refl _ | refine Acc.drew ?_ | refine Acc.drewN ?_ _ | refine Acc.alloc ?_ _ | refine Acc.setCell ?_ ?_ _) | (refine leB ?_; omega)))
              | true =>
                go_wp2_with fail
                refine (gave_any Cl.out Dl.out (specOver_any z1 z2 z3 m1 m2 m3 _)).mono ?_
                rintro e W8 ⟨rfl, hb⟩
                have Ba : Blk W8 (w.heap.size) [.int .i64 x1, .int .i64 x2, .int .i64 x3] := Blk.keep hb (by repeat' (first | (with_reducible first | assumption | refine Blk.drew ?_ | refine Blk.drewN ?_ _ | apply Blk.set | (refine Blk.new ?_; focus (first | rfl | (simp; done))) | refine Blk.alloc ?_ _ | refine Blk.other ?_ ?_ _) | exact eqL rfl | (refine neB ?_; omega)))
                have Bb : Blk W8 (w.heap.size + 1) [.int .i64 y1, .int .i64 y2, .int .i64 y3] := Blk.keep hb (by repeat' (first | (with_reducible first | assumption | refine Blk.drew ?_ | refine Blk.drewN ?_ _ | apply Blk.set | (refine Blk.new ?_; focus (first | rfl | (simp; done))) | refine Blk.alloc ?_ _ | refine Blk.other ?_ ?_ _) | exact eqL rfl | (refine neB ?_; omega)))
                have Br : Blk W8 (w.heap.size + 1 + 1) [.int .i64 0, .int .i64 0, .int .i64 0] := Blk.keep hb (by repeat' (first | (with_reducible first | assumption | refine Blk.drew ?_ | refine Blk.drewN ?_ _ | apply Blk.set | (refine Blk.new ?_; focus (first | rfl | (simp; done))) | refine Blk.alloc ?_ _ | refine Blk.other ?_ ?_ _) | exact eqL rfl | (refine neB ?_; omega)))
                have Bs : Blk W8 (w.heap.size + 1 + 1 + 1) [.int .i64 0, .int .i64 0, .int .i64 0] := Blk.keep hb (by repeat' (first | (with_reducible first | assumption | refine Blk.drew ?_ | refine Blk.drewN ?_ _ | apply Blk.set | (refine Blk.new ?_; focus (first | rfl | (simp; done))) | refine Blk.alloc ?_ _ | refine Blk.other ?_ ?_ _) | exact eqL rfl | (refine neB ?_; omega)))
                have Bp : Blk W8 (W1.heap.size) [.int .i64 r1, .int .i64 r2, .int .i64 r3] := Blk.keep hb (by repeat' (first | (with_reducible first | assumption | refine Blk.drew ?_ | refine Blk.drewN ?_ _ | apply Blk.set | (refine Blk.new ?_; focus (first | rfl | (simp; done))) | refine Blk.alloc ?_ _ | refine Blk.other ?_ ?_ _) | exact eqL rfl | (refine neB ?_; omega)))
                have Bt : Blk W8 (W2.heap.size) [.int .i64 t1, .int .i64 t2, .int .i64 t3] := Blk.keep hb (by repeat' (first | (with_reducible first | assumption | refine Blk.drew ?_ | refine Blk.drewN ?_ _ | apply Blk.set | (refine Blk.new ?_; focus (first | rfl | (simp; done))) | refine Blk.alloc ?_ _ | refine Blk.other ?_ ?_ _) | exact eqL rfl | (refine neB ?_; omega)))
                have Bg : Blk W8 (W3.heap.size) [.int .i64 p1, .int .i64 p2, .int .i64 p3] := Blk.keep hb (by repeat' (first | (with_reducible first | assumption | refine Blk.drew ?_ | refine Blk.drewN ?_ _ | apply Blk.set | (refine Blk.new ?_; focus (first | rfl | (simp; done))) | refine Blk.alloc ?_ _ | refine Blk.other ?_ ?_ _) | exact eqL rfl | (refine neB ?_; omega)))
                have Bh : Blk W8 (W4.heap.size) [.int .i64 q1, .int .i64 q2, .int .i64 q3] := Blk.keep hb (by repeat' (first | (with_reducible first | assumption | refine Blk.drew ?_ | refine Blk.drewN ?_ _ | apply Blk.set | (refine Blk.new ?_; focus (first | rfl | (simp; done))) | refine Blk.alloc ?_ _ | refine Blk.other ?_ ?_ _) | exact eqL rfl | (refine neB ?_; omega)))
                have Bm : Blk W8 (W5.heap.size) [.int .i64 m1, .int .i64 m2, .int .i64 m3] := Blk.keep hb (by repeat' (first | (with_reducible first | assumption | refine Blk.drew ?_ | refine Blk.drewN ?_ _ | apply Blk.set | (refine Blk.new ?_; focus (first | rfl | (simp; done))) | refine Blk.alloc ?_ _ | refine Blk.other ?_ ?_ _) | exact eqL rfl | (refine neB ?_; omega)))
                have Bn : Blk W8 (W6.heap.size) [.int .i64 n1, .int .i64 n2, .int .i64 n3] := Blk.keep hb (by repeat' (first | (with_reducible first | assumption | refine Blk.drew ?_ | refine Blk.drewN ?_ _ | apply Blk.set | (refine Blk.new ?_; focus (first | rfl | (simp; done))) | refine Blk.alloc ?_ _ | refine Blk.other ?_ ?_ _) | exact eqL rfl | (refine neB ?_; omega)))
                have Bz : Blk W8 (W7.heap.size) [.int .i64 z1, .int .i64 z2, .int .i64 z3] := Blk.keep hb (by repeat' (first | (with_reducible first | assumption | refine Blk.drew ?_ | refine Blk.drewN ?_ _ | apply Blk.set | (refine Blk.new ?_; focus (first | rfl | (simp; done))) | refine Blk.alloc ?_ _ | refine Blk.other ?_ ?_ _) | exact eqL rfl | (refine neB ?_; omega)))
                have ca := Ba.cell
                have fa := Ba.free
                have la_W8 := Ba.lt
                have cb := Bb.cell
                have fb := Bb.free
                have lb_W8 := Bb.lt
                have cr := Br.cell
                have fr := Br.free
                have lr_W8 := Br.lt
                have cs := Bs.cell
                have fs := Bs.free
                have ls_W8 := Bs.lt
                have cp := Bp.cell
                have fp := Bp.free
                have lp_W8 := Bp.lt
                have ct := Bt.cell
                have ft := Bt.free
                have lt_W8 := Bt.lt
                have cg := Bg.cell
                have fg := Bg.free
                have lg_W8 := Bg.lt
                have ch := Bh.cell
                have fh := Bh.free
                have lh_W8 := Bh.lt
                have cm := Bm.cell
                have fm := Bm.free
                have lm_W8 := Bm.lt
                have cn := Bn.cell
                have fn := Bn.free
                have ln_W8 := Bn.lt
                have cz := Bz.cell
                have fz := Bz.free
                have lz_W8 := Bz.lt
                have kaW8 : Acc w W8 := by
                  refine Acc.call ?_ hb
                  (repeat' (first | (with_reducible first | assumption | exact Acc.refl _ | refine Acc.drew ?_ | refine Acc.drewN ?_ _ | refine Acc.alloc ?_ _ | refine Acc.setCell ?_ ?_ _) | (refine leB ?_; omega)))
                clear hb
                cases kl with
                | false =>
                  obtain rfl : o = none := HE.out.symm.trans (by
                    unfold powM
                    rw [show refM ls (x1, x2, x3) (y1, y2, y3) = some (r1, r2, r3) from some_of Cr.out Dr.out, Option.bind_some]
                    try dsimp only
                    rw [show pasM ls (x1, x2, x3) (y1, y2, y3) = some (t1, t2, t3) from some_of Ct.out Dt.out, Option.bind_some]
                    try dsimp only
                    rw [show powT (r1, r2, r3) = some (p1, p2, p3) from some_of Cp.out Dp.out, Option.bind_some]
                    try dsimp only
                    rw [show powT (t1, t2, t3) = some (q1, q2, q3) from some_of Cq.out Dq.out, Option.bind_some]
                    try dsimp only
                    rw [show makeT x1 x3 = some (m1, m2, m3) from some_of Cm.out Dm.out, Option.bind_some]
                    try dsimp only
                    rw [show makeT y1 y3 = some (n1, n2, n3) from some_of Cn.out Dn.out, Option.bind_some]
                    try dsimp only
                    rw [show tT (q1, q2, q3) (n1, n2, n3) = some (z1, z2, z3) from some_of Cz.out Dz.out, Option.bind_some]
                    try dsimp only
                    rw [show oT (z1, z2, z3) (m1, m2, m3) = none from none_of Dl.out]
                    rfl
                    )
                  go_wp2_with fail
                  refine bodyPost_ret (v := .tuple #[.agg #[.int .i64 0, .int .i64 0, .int .i64 0], .agg #[.int .i64 0, .int .i64 0, .int .i64 0], .bool false]) (by simp [results, Tryz.results6, go_sem, *]) rfl ⟨fun _ _ _ _ _ _ h => (by cases h), fun _ => rfl, ?_⟩
                  show Acc w _
                  (repeat' (first | (with_reducible first | assumption | exact Acc.refl _ | refine Acc.drew ?_ | refine Acc.drewN ?_ _ | refine Acc.alloc ?_ _ | refine Acc.setCell ?_ ?_ _) | (refine leB ?_; omega)))
                | true =>
                  obtain rfl : o = some ((p1, p2, p3), (l1, l2, l3)) := HE.out.symm.trans (by
                    unfold powM
                    rw [show refM ls (x1, x2, x3) (y1, y2, y3) = some (r1, r2, r3) from some_of Cr.out Dr.out, Option.bind_some]
                    try dsimp only
                    rw [show pasM ls (x1, x2, x3) (y1, y2, y3) = some (t1, t2, t3) from some_of Ct.out Dt.out, Option.bind_some]
                    try dsimp only
                    rw [show powT (r1, r2, r3) = some (p1, p2, p3) from some_of Cp.out Dp.out, Option.bind_some]
                    try dsimp only
                    rw [show powT (t1, t2, t3) = some (q1, q2, q3) from some_of Cq.out Dq.out, Option.bind_some]
                    try dsimp only
                    rw [show makeT x1 x3 = some (m1, m2, m3) from some_of Cm.out Dm.out, Option.bind_some]
                    try dsimp only
                    rw [show makeT y1 y3 = some (n1, n2, n3) from some_of Cn.out Dn.out, Option.bind_some]
                    try dsimp only
                    rw [show tT (q1, q2, q3) (n1, n2, n3) = some (z1, z2, z3) from some_of Cz.out Dz.out, Option.bind_some]
                    try dsimp only
                    rw [show oT (z1, z2, z3) (m1, m2, m3) = some (l1, l2, l3) from some_of Cl.out Dl.out, Option.bind_some]
                    try dsimp only
                    )
                  go_upto_region 17 with fail
                  go_region_held3 (fun w' => (∀ k, w'.cell? ⟨W3.heap.size, k, none⟩ = [.int .i64 p1, .int .i64 p2, .int .i64 p3][k]?) ∧ (∀ k, w'.cell? ⟨W8.heap.size, k, none⟩ = [.int .i64 l1, .int .i64 l2, .int .i64 l3][k]?))
                    (((try dsimp only); (refine ⟨Blk.cell ?_, Blk.cell ?_⟩ <;> (repeat' (first | (with_reducible first | assumption | refine Blk.drew ?_ | refine Blk.drewN ?_ _ | apply Blk.set | (refine Blk.new ?_; focus (first | rfl | (simp; done))) | refine Blk.alloc ?_ _ | refine Blk.other ?_ ?_ _) | exact eqL rfl | (refine neB ?_; omega))))))
                    (first
                      | fail)
                  all_goals
                    go_wp2_with fail
                    refine bodyPost_ret (v := .tuple #[.agg #[.int .i64 p1, .int .i64 p2, .int .i64 p3], .agg #[.int .i64 l1, .int .i64 l2, .int .i64 l3], .bool true]) (by simp [results, Tryz.results6, go_sem, *]) rfl ⟨fun _ _ _ _ _ _ h => (by cases h; rfl), fun h => (by cases h), ?_⟩
                    show Acc w _
                    (repeat' (first | (with_reducible first | assumption | exact Acc.refl _ | refine Acc.drew ?_ | refine Acc.drewN ?_ _ | refine Acc.alloc ?_ _ | refine Acc.setCell ?_ ?_ _) | (refine leB ?_; omega)))
end Go.Proofs.YtpgklllgmfaekaaGreatDoor
