/-
  The model: sums and rows whose flag lies behind a pointer.
-/
import Derived.Test.YtgmpbdndkjnbfaaDoorBTabA
import Derived.Test.YtgmpbdndkjnbfaaDoorSpecS1
import Derived.Test.YtgmpbdndkjnbfaaDoorBSpecF
import Derived.Test.YtgmpbdndkjnbfaaDoorBImplF
import Derived.Test.YtgmpbdndkjnbfaaDoorFlag
import Derived.Deep.RegionHeld3
namespace Go.Proofs.YtgmpbdndkjnbfaaDoor
open Go.ChangeShapes Go.WideShapes Go.ChangeAt Go.RowKit
set_option linter.unusedVariables false

set_option maxHeartbeats 4000000 in
theorem specTAdd_at {s x y z a b c p q r : Int} {f g k : Bool} (hs : s = 1 ∨ s = -1) (hv : partsR (sumF s x y z a b c) = (p, q, r)) (hf : okR (sumF s x y z a b c) = f) (hg : (k && f) = g) (n : Nat) (w : World) (Bfl : Blk w n [.bool k]) :
    Calls Tryd.prog 35 #[.pointer (some ⟨n, 0, none⟩), .agg #[.int .i64 x, .int .i64 y, .int .i64 z], .int .i64 s, .agg #[.int .i64 a, .int .i64 b, .int .i64 c]] w fun e w' => e = .returned (.agg #[.int .i64 p, .int .i64 q, .int .i64 r]) ∧ Blk w' n [.bool g] ∧ Only n w w' := by
  have HC := Lib.hid hv
  have HD := Lib.hid hf
  have HS := Lib.hid hs
  have HG := Lib.hid hg
  clear hv hf hs hg
  have cfl := Bfl.cell
  have ffl := Bfl.free
  have lfl_w := Bfl.lt
  go_enter Tryd.func35, Tryd.ntmps35
  go_wp2_with fail
  refine (gave_any HC.out HD.out (specSum_any s x y z a b c _ HS.out)).mono ?_
  rintro e W1 ⟨rfl, hb⟩
  have Bfl : Blk W1 (n) [.bool k] := Blk.keep hb (by repeat' (first | (with_reducible first | assumption | refine Blk.drew ?_ | refine Blk.drewN ?_ _ | apply Blk.set | (refine Blk.new ?_; focus (first | rfl | (simp; done))) | refine Blk.alloc ?_ _ | refine Blk.other ?_ ?_ _) | exact eqL rfl | (refine neB ?_; omega)))
  have Ba : Blk W1 (w.heap.size) [.int .i64 x, .int .i64 y, .int .i64 z] := Blk.keep hb (by repeat' (first | (with_reducible first | assumption | refine Blk.drew ?_ | refine Blk.drewN ?_ _ | apply Blk.set | (refine Blk.new ?_; focus (first | rfl | (simp; done))) | refine Blk.alloc ?_ _ | refine Blk.other ?_ ?_ _) | exact eqL rfl | (refine neB ?_; omega)))
  have Bb : Blk W1 (w.heap.size + 1) [.int .i64 a, .int .i64 b, .int .i64 c] := Blk.keep hb (by repeat' (first | (with_reducible first | assumption | refine Blk.drew ?_ | refine Blk.drewN ?_ _ | apply Blk.set | (refine Blk.new ?_; focus (first | rfl | (simp; done))) | refine Blk.alloc ?_ _ | refine Blk.other ?_ ?_ _) | exact eqL rfl | (refine neB ?_; omega)))
  have Br : Blk W1 (w.heap.size + 1 + 1) [.int .i64 0, .int .i64 0, .int .i64 0] := Blk.keep hb (by repeat' (first | (with_reducible first | assumption | refine Blk.drew ?_ | refine Blk.drewN ?_ _ | apply Blk.set | (refine Blk.new ?_; focus (first | rfl | (simp; done))) | refine Blk.alloc ?_ _ | refine Blk.other ?_ ?_ _) | exact eqL rfl | (refine neB ?_; omega)))
  have cfl := Bfl.cell
  have ffl := Bfl.free
  have lfl_W1 := Bfl.lt
  have ca := Ba.cell
  have fa := Ba.free
  have la_W1 := Ba.lt
  have cb := Bb.cell
  have fb := Bb.free
  have lb_W1 := Bb.lt
  have cr := Br.cell
  have fr := Br.free
  have lr_W1 := Br.lt
  have kaW1 : Only n w W1 := by
    refine Only.call ?_ hb
    (repeat' (first | (with_reducible first | assumption | exact Only.refl _ _ | refine Only.drew ?_ | refine Only.drewN ?_ _ | refine Only.alloc ?_ _ | refine Only.here ?_ _ | refine Only.setCell ?_ ?_ _) | (refine leB ?_; omega)))
  clear hb
  cases k with
  | false =>
    obtain rfl : false = g := HG.out
    go_wp2_with fail
    refine bodyPost_ret (v := .agg #[.int .i64 p, .int .i64 q, .int .i64 r]) (by simp [results, Tryd.results35, go_sem, *]) rfl ⟨rfl, ?_, ?_⟩
    · (repeat' (first | (with_reducible first | assumption | refine Blk.drew ?_ | refine Blk.drewN ?_ _ | apply Blk.set | (refine Blk.new ?_; focus (first | rfl | (simp; done))) | refine Blk.alloc ?_ _ | refine Blk.other ?_ ?_ _) | exact eqL rfl | (refine neB ?_; omega)))
    · show Only n w _
      (repeat' (first | (with_reducible first | assumption | exact Only.refl _ _ | refine Only.drew ?_ | refine Only.drewN ?_ _ | refine Only.alloc ?_ _ | refine Only.here ?_ _ | refine Only.setCell ?_ ?_ _) | (refine leB ?_; omega)))
  | true =>
    obtain rfl : f = g := HG.out
    go_wp2_with fail
    refine bodyPost_ret (v := .agg #[.int .i64 p, .int .i64 q, .int .i64 r]) (by simp [results, Tryd.results35, go_sem, *]) rfl ⟨rfl, ?_, ?_⟩
    · (repeat' (first | (with_reducible first | assumption | refine Blk.drew ?_ | refine Blk.drewN ?_ _ | apply Blk.set | (refine Blk.new ?_; focus (first | rfl | (simp; done))) | refine Blk.alloc ?_ _ | refine Blk.other ?_ ?_ _) | exact eqL rfl | (refine neB ?_; omega)))
    · show Only n w _
      (repeat' (first | (with_reducible first | assumption | exact Only.refl _ _ | refine Only.drew ?_ | refine Only.drewN ?_ _ | refine Only.alloc ?_ _ | refine Only.here ?_ _ | refine Only.setCell ?_ ?_ _) | (refine leB ?_; omega)))
set_option maxHeartbeats 16000000 in
theorem specTRow_at {x0a x0b x0c x1a x1b x1c x2a x2b x2c x3a x3b x3c y0a y0b y0c y1a y1b y1c y2a y2b y2c y3a y3b y3c rd1 rd2 rd3 : Int} {f g k : Bool} (hv : rowV ((x0a, x0b, x0c), (x1a, x1b, x1c), (x2a, x2b, x2c), (x3a, x3b, x3c)) ((y0a, y0b, y0c), (y1a, y1b, y1c), (y2a, y2b, y2c), (y3a, y3b, y3c)) = (rd1, rd2, rd3)) (hf : rowK ((x0a, x0b, x0c), (x1a, x1b, x1c), (x2a, x2b, x2c), (x3a, x3b, x3c)) ((y0a, y0b, y0c), (y1a, y1b, y1c), (y2a, y2b, y2c), (y3a, y3b, y3c)) = f) (hg : (k && f) = g) (n : Nat) (w : World) (Bfl : Blk w n [.bool k]) :
    Calls Tryd.prog 18 #[.pointer (some ⟨n, 0, none⟩), .agg #[.int .i64 x0a, .int .i64 x0b, .int .i64 x0c, .int .i64 x1a, .int .i64 x1b, .int .i64 x1c, .int .i64 x2a, .int .i64 x2b, .int .i64 x2c, .int .i64 x3a, .int .i64 x3b, .int .i64 x3c], .agg #[.int .i64 y0a, .int .i64 y0b, .int .i64 y0c, .int .i64 y1a, .int .i64 y1b, .int .i64 y1c, .int .i64 y2a, .int .i64 y2b, .int .i64 y2c, .int .i64 y3a, .int .i64 y3b, .int .i64 y3c]] w fun e w' => e = .returned (.agg #[.int .i64 rd1, .int .i64 rd2, .int .i64 rd3]) ∧ Blk w' n [.bool g] ∧ Only n w w' := by
  obtain ⟨⟨p1, p2, p3⟩, hv⟩ : ∃ o, partsR (timesF x0a x0b x0c y0a y0b y0c) = o := ⟨_, rfl⟩
  obtain ⟨kp, hk⟩ : ∃ k, okR (timesF x0a x0b x0c y0a y0b y0c) = k := ⟨_, rfl⟩
  have Cp := Lib.hid hv
  have Dp := Lib.hid hk
  clear hv hk
  obtain ⟨⟨ra1, ra2, ra3⟩, hv⟩ : ∃ o, partsR (sumF 1 0 0 1 p1 p2 p3) = o := ⟨_, rfl⟩
  obtain ⟨kra, hk⟩ : ∃ k, okR (sumF 1 0 0 1 p1 p2 p3) = k := ⟨_, rfl⟩
  have Cra := Lib.hid hv
  have Dra := Lib.hid hk
  clear hv hk
  obtain ⟨⟨q1, q2, q3⟩, hv⟩ : ∃ o, partsR (timesF x1a x1b x1c y1a y1b y1c) = o := ⟨_, rfl⟩
  obtain ⟨kq, hk⟩ : ∃ k, okR (timesF x1a x1b x1c y1a y1b y1c) = k := ⟨_, rfl⟩
  have Cq := Lib.hid hv
  have Dq := Lib.hid hk
  clear hv hk
  obtain ⟨⟨rb1, rb2, rb3⟩, hv⟩ : ∃ o, partsR (sumF 1 ra1 ra2 ra3 q1 q2 q3) = o := ⟨_, rfl⟩
  obtain ⟨krb, hk⟩ : ∃ k, okR (sumF 1 ra1 ra2 ra3 q1 q2 q3) = k := ⟨_, rfl⟩
  have Crb := Lib.hid hv
  have Drb := Lib.hid hk
  clear hv hk
  obtain ⟨⟨u1, u2, u3⟩, hv⟩ : ∃ o, partsR (timesF x2a x2b x2c y2a y2b y2c) = o := ⟨_, rfl⟩
  obtain ⟨ku, hk⟩ : ∃ k, okR (timesF x2a x2b x2c y2a y2b y2c) = k := ⟨_, rfl⟩
  have Cu := Lib.hid hv
  have Du := Lib.hid hk
  clear hv hk
  obtain ⟨⟨rc1, rc2, rc3⟩, hv⟩ : ∃ o, partsR (sumF 1 rb1 rb2 rb3 u1 u2 u3) = o := ⟨_, rfl⟩
  obtain ⟨krc, hk⟩ : ∃ k, okR (sumF 1 rb1 rb2 rb3 u1 u2 u3) = k := ⟨_, rfl⟩
  have Crc := Lib.hid hv
  have Drc := Lib.hid hk
  clear hv hk
  obtain ⟨⟨v1, v2, v3⟩, hv⟩ : ∃ o, partsR (timesF x3a x3b x3c y3a y3b y3c) = o := ⟨_, rfl⟩
  obtain ⟨kv, hk⟩ : ∃ k, okR (timesF x3a x3b x3c y3a y3b y3c) = k := ⟨_, rfl⟩
  have Cv := Lib.hid hv
  have Dv := Lib.hid hk
  clear hv hk
  have Crd : RowKit.Hid (partsR (sumF 1 rc1 rc2 rc3 v1 v2 v3) = (rd1, rd2, rd3)) := Lib.hid (Eq.trans (by unfold rowV v3O tT sT addF; simp only [Cp.out, Cra.out, Cq.out, Crb.out, Cu.out, Crc.out, Cv.out]) hv)
  obtain ⟨krd, hk⟩ : ∃ k, okR (sumF 1 rc1 rc2 rc3 v1 v2 v3) = k := ⟨_, rfl⟩
  have Drd := Lib.hid hk
  clear hk hv
  have HF : RowKit.Hid ((k && (kp && kra && (kq && krb) && (ku && krc) && (kv && krd))) = g) := Lib.hid (by subst hf; exact Eq.trans (by unfold rowK v3O tT sT addF; simp only [Cp.out, Cra.out, Cq.out, Crb.out, Cu.out, Crc.out, Cv.out, Dp.out, Dra.out, Dq.out, Drb.out, Du.out, Drc.out, Dv.out, Drd.out]) hg)
  clear hf hg
  obtain ⟨g1, hg⟩ : ∃ x, (k && kp) = x := ⟨_, rfl⟩
  have G1 := Lib.hid hg
  clear hg
  obtain ⟨g2, hg⟩ : ∃ x, (g1 && kra) = x := ⟨_, rfl⟩
  have G2 := Lib.hid hg
  clear hg
  obtain ⟨g3, hg⟩ : ∃ x, (g2 && kq) = x := ⟨_, rfl⟩
  have G3 := Lib.hid hg
  clear hg
  obtain ⟨g4, hg⟩ : ∃ x, (g3 && krb) = x := ⟨_, rfl⟩
  have G4 := Lib.hid hg
  clear hg
  obtain ⟨g5, hg⟩ : ∃ x, (g4 && ku) = x := ⟨_, rfl⟩
  have G5 := Lib.hid hg
  clear hg
  obtain ⟨g6, hg⟩ : ∃ x, (g5 && krc) = x := ⟨_, rfl⟩
  have G6 := Lib.hid hg
  clear hg
  obtain ⟨g7, hg⟩ : ∃ x, (g6 && kv) = x := ⟨_, rfl⟩
  have G7 := Lib.hid hg
  clear hg
  obtain ⟨g8, hg⟩ : ∃ x, (g7 && krd) = x := ⟨_, rfl⟩
  have G8 := Lib.hid hg
  clear hg
  have cfl := Bfl.cell
  have ffl := Bfl.free
  have lfl_w := Bfl.lt
  go_enter Tryd.func18, Tryd.ntmps18
  go_wp2_with fail
  refine wp_loop_rounds 5 ?_
  rw [rounds_succ]
  go_wp2_with fail
  go_cut [9, 10] (fun s9 s10 wx => ∃ pv1x : Nat, s9 = .pointer (some ⟨pv1x, 0, none⟩) ∧ s10 = .bool kp ∧ Blk wx (pv1x) [.int .i64 p1, .int .i64 p2, .int .i64 p3] ∧ Blk wx (n) [.bool k] ∧ Blk wx (w.heap.size) [.int .i64 x0a, .int .i64 x0b, .int .i64 x0c, .int .i64 x1a, .int .i64 x1b, .int .i64 x1c, .int .i64 x2a, .int .i64 x2b, .int .i64 x2c, .int .i64 x3a, .int .i64 x3b, .int .i64 x3c] ∧ Blk wx (w.heap.size + 1) [.int .i64 y0a, .int .i64 y0b, .int .i64 y0c, .int .i64 y1a, .int .i64 y1b, .int .i64 y1c, .int .i64 y2a, .int .i64 y2b, .int .i64 y2c, .int .i64 y3a, .int .i64 y3b, .int .i64 y3c] ∧ Blk wx (w.heap.size + 1 + 1) [.int .i64 0, .int .i64 0, .int .i64 0] ∧ Blk wx (w.heap.size + 1 + 1 + 1) [.int .i64 0, .int .i64 0, .int .i64 1] ∧ n < pv1x ∧ w.heap.size < pv1x ∧ w.heap.size + 1 < pv1x ∧ w.heap.size + 1 + 1 < pv1x ∧ w.heap.size + 1 + 1 + 1 < pv1x ∧ Only n w wx)
  case first =>
    go_region_held3 (fun w' => (∀ k, w'.cell? ⟨w.heap.size, k, none⟩ = [.int .i64 x0a, .int .i64 x0b, .int .i64 x0c, .int .i64 x1a, .int .i64 x1b, .int .i64 x1c, .int .i64 x2a, .int .i64 x2b, .int .i64 x2c, .int .i64 x3a, .int .i64 x3b, .int .i64 x3c][k]?) ∧ (∀ k, w'.cell? ⟨w.heap.size + 1, k, none⟩ = [.int .i64 y0a, .int .i64 y0b, .int .i64 y0c, .int .i64 y1a, .int .i64 y1b, .int .i64 y1c, .int .i64 y2a, .int .i64 y2b, .int .i64 y2c, .int .i64 y3a, .int .i64 y3b, .int .i64 y3c][k]?))
      (((try dsimp only); (refine ⟨Blk.cell ?_, Blk.cell ?_⟩ <;> (repeat' (first | (with_reducible first | assumption | refine Blk.drew ?_ | refine Blk.drewN ?_ _ | apply Blk.set | (refine Blk.new ?_; focus (first | rfl | (simp; done))) | refine Blk.alloc ?_ _ | refine Blk.other ?_ ?_ _) | exact eqL rfl | (refine neB ?_; omega))))))
      (first
        | (go_at_call 34; refine (gave_any Cp.out Dp.out (specTimes_any x0a x0b x0c y0a y0b y0c _)).mono ?_; rintro e W9 ⟨rfl, hb⟩; (try (refine with_fact (A := Blk W9 (w.heap.size + 1 + 1 + 1 + 1) [.int .i64 0, .int .i64 0, .int .i64 0]) ?_ ?_; (focus (refine Blk.keep hb ?_; (repeat' (first | (with_reducible first | assumption | refine Blk.drew ?_ | refine Blk.drewN ?_ _ | apply Blk.set | (refine Blk.new ?_; focus (first | rfl | (simp; done))) | refine Blk.alloc ?_ _ | refine Blk.other ?_ ?_ _) | exact eqL rfl | (refine neB ?_; omega))); done)); intro Bz0; have cz0 := Bz0.cell; have fz0 := Bz0.free; have lz0 := Bz0.lt)); (try (refine with_fact (A := Blk W9 (w.heap.size + 1 + 1 + 1 + 1 + 1) [.int .i64 0, .int .i64 0, .int .i64 0]) ?_ ?_; (focus (refine Blk.keep hb ?_; (repeat' (first | (with_reducible first | assumption | refine Blk.drew ?_ | refine Blk.drewN ?_ _ | apply Blk.set | (refine Blk.new ?_; focus (first | rfl | (simp; done))) | refine Blk.alloc ?_ _ | refine Blk.other ?_ ?_ _) | exact eqL rfl | (refine neB ?_; omega))); done)); intro Bz1; have cz1 := Bz1.cell; have fz1 := Bz1.free; have lz1 := Bz1.lt)); have Bfl : Blk W9 (n) [.bool k] := Blk.keep hb (by repeat' (first | (with_reducible first | assumption | refine Blk.drew ?_ | refine Blk.drewN ?_ _ | apply Blk.set | (refine Blk.new ?_; focus (first | rfl | (simp; done))) | refine Blk.alloc ?_ _ | refine Blk.other ?_ ?_ _) | exact eqL rfl | (refine neB ?_; omega))); have Ba : Blk W9 (w.heap.size) [.int .i64 x0a, .int .i64 x0b, .int .i64 x0c, .int .i64 x1a, .int .i64 x1b, .int .i64 x1c, .int .i64 x2a, .int .i64 x2b, .int .i64 x2c, .int .i64 x3a, .int .i64 x3b, .int .i64 x3c] := Blk.keep hb (by repeat' (first | (with_reducible first | assumption | refine Blk.drew ?_ | refine Blk.drewN ?_ _ | apply Blk.set | (refine Blk.new ?_; focus (first | rfl | (simp; done))) | refine Blk.alloc ?_ _ | refine Blk.other ?_ ?_ _) | exact eqL rfl | (refine neB ?_; omega))); have Bb : Blk W9 (w.heap.size + 1) [.int .i64 y0a, .int .i64 y0b, .int .i64 y0c, .int .i64 y1a, .int .i64 y1b, .int .i64 y1c, .int .i64 y2a, .int .i64 y2b, .int .i64 y2c, .int .i64 y3a, .int .i64 y3b, .int .i64 y3c] := Blk.keep hb (by repeat' (first | (with_reducible first | assumption | refine Blk.drew ?_ | refine Blk.drewN ?_ _ | apply Blk.set | (refine Blk.new ?_; focus (first | rfl | (simp; done))) | refine Blk.alloc ?_ _ | refine Blk.other ?_ ?_ _) | exact eqL rfl | (refine neB ?_; omega))); have Br : Blk W9 (w.heap.size + 1 + 1) [.int .i64 0, .int .i64 0, .int .i64 0] := Blk.keep hb (by repeat' (first | (with_reducible first | assumption | refine Blk.drew ?_ | refine Blk.drewN ?_ _ | apply Blk.set | (refine Blk.new ?_; focus (first | rfl | (simp; done))) | refine Blk.alloc ?_ _ | refine Blk.other ?_ ?_ _) | exact eqL rfl | (refine neB ?_; omega))); have Bs : Blk W9 (w.heap.size + 1 + 1 + 1) [.int .i64 0, .int .i64 0, .int .i64 1] := Blk.keep hb (by repeat' (first | (with_reducible first | assumption | refine Blk.drew ?_ | refine Blk.drewN ?_ _ | apply Blk.set | (refine Blk.new ?_; focus (first | rfl | (simp; done))) | refine Blk.alloc ?_ _ | refine Blk.other ?_ ?_ _) | exact eqL rfl | (refine neB ?_; omega))); have cfl := Bfl.cell; have ffl := Bfl.free; have lfl_W9 := Bfl.lt; have ca := Ba.cell; have fa := Ba.free; have la_W9 := Ba.lt; have cb := Bb.cell; have fb := Bb.free; have lb_W9 := Bb.lt; have cr := Br.cell; have fr := Br.free; have lr_W9 := Br.lt; have cs := Bs.cell; have fs := Bs.free; have ls_W9 := Bs.lt; have kaW9 : Only n w W9 := (by refine Only.call ?_ hb; (repeat' (first | (with_reducible first | assumption | exact Only.refl _ _ | refine Only.drew ?_ | refine Only.drewN ?_ _ | refine Only.alloc ?_ _ | refine Only.here ?_ _ | refine Only.setCell ?_ ?_ _) | (refine leB ?_; omega)))); clear hb))
    all_goals
      go_wp2_with fail
    all_goals
      go_meet
      refine ⟨_, rfl, rfl, ?_⟩
      and_intros
      all_goals
        first
          | ((repeat' (first | (with_reducible first | assumption | refine Blk.drew ?_ | refine Blk.drewN ?_ _ | apply Blk.set | (refine Blk.new ?_; focus (first | rfl | (simp; done))) | refine Blk.alloc ?_ _ | refine Blk.other ?_ ?_ _) | exact eqL rfl | (refine neB ?_; omega))); done)
          | ((show Only n w _); (repeat' (first | (with_reducible first | assumption | exact Only.refl _ _ | refine Only.drew ?_ | refine Only.drewN ?_ _ | refine Only.alloc ?_ _ | refine Only.here ?_ _ | refine Only.setCell ?_ ?_ _) | (refine leB ?_; omega))); done)
          | (refine leB ?_; omega)
  case rest =>
    obtain ⟨pv1x, rfl, rfl, Bv, Bfl, Ba, Bb, Br, Bs, low5_0, low5_1, low5_2, low5_3, low5_4, kawc⟩ := hcut
    have cv := Bv.cell
    have fv := Bv.free
    have lv_wc := Bv.lt
    have cfl := Bfl.cell
    have ffl := Bfl.free
    have lfl_wc := Bfl.lt
    have ca := Ba.cell
    have fa := Ba.free
    have la_wc := Ba.lt
    have cb := Bb.cell
    have fb := Bb.free
    have lb_wc := Bb.lt
    have cr := Br.cell
    have fr := Br.free
    have lr_wc := Br.lt
    have cs := Bs.cell
    have fs := Bs.free
    have ls_wc := Bs.lt
    go_upto_region 6 with fail
    go_cut [] (fun wx => Blk wx (pv1x) [.int .i64 p1, .int .i64 p2, .int .i64 p3] ∧ Blk wx (n) [.bool g1] ∧ Blk wx (w.heap.size) [.int .i64 x0a, .int .i64 x0b, .int .i64 x0c, .int .i64 x1a, .int .i64 x1b, .int .i64 x1c, .int .i64 x2a, .int .i64 x2b, .int .i64 x2c, .int .i64 x3a, .int .i64 x3b, .int .i64 x3c] ∧ Blk wx (w.heap.size + 1) [.int .i64 y0a, .int .i64 y0b, .int .i64 y0c, .int .i64 y1a, .int .i64 y1b, .int .i64 y1c, .int .i64 y2a, .int .i64 y2b, .int .i64 y2c, .int .i64 y3a, .int .i64 y3b, .int .i64 y3c] ∧ Blk wx (w.heap.size + 1 + 1) [.int .i64 0, .int .i64 0, .int .i64 0] ∧ Blk wx (w.heap.size + 1 + 1 + 1) [.int .i64 0, .int .i64 0, .int .i64 1] ∧ Only n w wx)
    case first =>
      cases k with
      | false =>
        obtain rfl : false = g1 := G1.out
        go_wp2_with fail
        go_meet
        and_intros
        all_goals
          first
            | ((repeat' (first | (with_reducible first | assumption | refine Blk.drew ?_ | refine Blk.drewN ?_ _ | apply Blk.set | (refine Blk.new ?_; focus (first | rfl | (simp; done))) | refine Blk.alloc ?_ _ | refine Blk.other ?_ ?_ _) | exact eqL rfl | (refine neB ?_; omega))); done)
            | ((show Only n w _); (repeat' (first | (with_reducible first | assumption | exact Only.refl _ _ | refine Only.drew ?_ | refine Only.drewN ?_ _ | refine Only.alloc ?_ _ | refine Only.here ?_ _ | refine Only.setCell ?_ ?_ _) | (refine leB ?_; omega))); done)
      | true =>
        obtain rfl : kp = g1 := G1.out
        go_wp2_with fail
        go_meet
        and_intros
        all_goals
          first
            | ((repeat' (first | (with_reducible first | assumption | refine Blk.drew ?_ | refine Blk.drewN ?_ _ | apply Blk.set | (refine Blk.new ?_; focus (first | rfl | (simp; done))) | refine Blk.alloc ?_ _ | refine Blk.other ?_ ?_ _) | exact eqL rfl | (refine neB ?_; omega))); done)
            | ((show Only n w _); (repeat' (first | (with_reducible first | assumption | exact Only.refl _ _ | refine Only.drew ?_ | refine Only.drewN ?_ _ | refine Only.alloc ?_ _ | refine Only.here ?_ _ | refine Only.setCell ?_ ?_ _) | (refine leB ?_; omega))); done)
    case rest =>
      obtain ⟨Bv, Bfl, Ba, Bb, Br, Bs, kawc⟩ := hcut
      have cv := Bv.cell
      have fv := Bv.free
      have lv_wc := Bv.lt
      have cfl := Bfl.cell
      have ffl := Bfl.free
      have lfl_wc := Bfl.lt
      have ca := Ba.cell
      have fa := Ba.free
      have la_wc := Ba.lt
      have cb := Bb.cell
      have fb := Bb.free
      have lb_wc := Bb.lt
      have cr := Br.cell
      have fr := Br.free
      have lr_wc := Br.lt
      have cs := Bs.cell
      have fs := Bs.free
      have ls_wc := Bs.lt
      go_wp2_with fail
      refine (specTAdd_at (.inl rfl) Cra.out Dra.out G2.out n _ (by repeat' (first | (with_reducible first | assumption | refine Blk.drew ?_ | refine Blk.drewN ?_ _ | apply Blk.set | (refine Blk.new ?_; focus (first | rfl | (simp; done))) | refine Blk.alloc ?_ _ | refine Blk.other ?_ ?_ _) | exact eqL rfl | (refine neB ?_; omega)))).mono ?_
      rintro e W1 ⟨rfl, Bfl, ho⟩
      have Bv : Blk W1 (pv1x) [.int .i64 p1, .int .i64 p2, .int .i64 p3] := Blk.keepo ho (neB (by omega)) (by repeat' (first | (with_reducible first | assumption | refine Blk.drew ?_ | refine Blk.drewN ?_ _ | apply Blk.set | (refine Blk.new ?_; focus (first | rfl | (simp; done))) | refine Blk.alloc ?_ _ | refine Blk.other ?_ ?_ _) | exact eqL rfl | (refine neB ?_; omega)))
      have Ba : Blk W1 (w.heap.size) [.int .i64 x0a, .int .i64 x0b, .int .i64 x0c, .int .i64 x1a, .int .i64 x1b, .int .i64 x1c, .int .i64 x2a, .int .i64 x2b, .int .i64 x2c, .int .i64 x3a, .int .i64 x3b, .int .i64 x3c] := Blk.keepo ho (neB (by omega)) (by repeat' (first | (with_reducible first | assumption | refine Blk.drew ?_ | refine Blk.drewN ?_ _ | apply Blk.set | (refine Blk.new ?_; focus (first | rfl | (simp; done))) | refine Blk.alloc ?_ _ | refine Blk.other ?_ ?_ _) | exact eqL rfl | (refine neB ?_; omega)))
      have Bb : Blk W1 (w.heap.size + 1) [.int .i64 y0a, .int .i64 y0b, .int .i64 y0c, .int .i64 y1a, .int .i64 y1b, .int .i64 y1c, .int .i64 y2a, .int .i64 y2b, .int .i64 y2c, .int .i64 y3a, .int .i64 y3b, .int .i64 y3c] := Blk.keepo ho (neB (by omega)) (by repeat' (first | (with_reducible first | assumption | refine Blk.drew ?_ | refine Blk.drewN ?_ _ | apply Blk.set | (refine Blk.new ?_; focus (first | rfl | (simp; done))) | refine Blk.alloc ?_ _ | refine Blk.other ?_ ?_ _) | exact eqL rfl | (refine neB ?_; omega)))
      have Br : Blk W1 (w.heap.size + 1 + 1) [.int .i64 0, .int .i64 0, .int .i64 0] := Blk.keepo ho (neB (by omega)) (by repeat' (first | (with_reducible first | assumption | refine Blk.drew ?_ | refine Blk.drewN ?_ _ | apply Blk.set | (refine Blk.new ?_; focus (first | rfl | (simp; done))) | refine Blk.alloc ?_ _ | refine Blk.other ?_ ?_ _) | exact eqL rfl | (refine neB ?_; omega)))
      have Bs : Blk W1 (w.heap.size + 1 + 1 + 1) [.int .i64 0, .int .i64 0, .int .i64 1] := Blk.keepo ho (neB (by omega)) (by repeat' (first | (with_reducible first | assumption | refine Blk.drew ?_ | refine Blk.drewN ?_ _ | apply Blk.set | (refine Blk.new ?_; focus (first | rfl | (simp; done))) | refine Blk.alloc ?_ _ | refine Blk.other ?_ ?_ _) | exact eqL rfl | (refine neB ?_; omega)))
      have cv := Bv.cell
      have fv := Bv.free
      have lv_W1 := Bv.lt
      have cfl := Bfl.cell
      have ffl := Bfl.free
      have lfl_W1 := Bfl.lt
      have ca := Ba.cell
      have fa := Ba.free
      have la_W1 := Ba.lt
      have cb := Bb.cell
      have fb := Bb.free
      have lb_W1 := Bb.lt
      have cr := Br.cell
      have fr := Br.free
      have lr_W1 := Br.lt
      have cs := Bs.cell
      have fs := Bs.free
      have ls_W1 := Bs.lt
      have kaW1 : Only n w W1 := by
        refine Only.trans ?_ ho
        (repeat' (first | (with_reducible first | assumption | exact Only.refl _ _ | refine Only.drew ?_ | refine Only.drewN ?_ _ | refine Only.alloc ?_ _ | refine Only.here ?_ _ | refine Only.setCell ?_ ?_ _) | (refine leB ?_; omega)))
      have lsW1 := ho.size
      clear ho
      go_wp2_with fail
      rw [rounds_succ]
      go_wp2_with fail
      go_cut [9, 10] (fun s9 s10 wx => ∃ pv3x : Nat, s9 = .pointer (some ⟨pv3x, 0, none⟩) ∧ s10 = .bool kq ∧ Blk wx (pv3x) [.int .i64 q1, .int .i64 q2, .int .i64 q3] ∧ Blk wx (n) [.bool g2] ∧ Blk wx (w.heap.size) [.int .i64 x0a, .int .i64 x0b, .int .i64 x0c, .int .i64 x1a, .int .i64 x1b, .int .i64 x1c, .int .i64 x2a, .int .i64 x2b, .int .i64 x2c, .int .i64 x3a, .int .i64 x3b, .int .i64 x3c] ∧ Blk wx (w.heap.size + 1) [.int .i64 y0a, .int .i64 y0b, .int .i64 y0c, .int .i64 y1a, .int .i64 y1b, .int .i64 y1c, .int .i64 y2a, .int .i64 y2b, .int .i64 y2c, .int .i64 y3a, .int .i64 y3b, .int .i64 y3c] ∧ Blk wx (w.heap.size + 1 + 1) [.int .i64 0, .int .i64 0, .int .i64 0] ∧ Blk wx (w.heap.size + 1 + 1 + 1) [.int .i64 ra1, .int .i64 ra2, .int .i64 ra3] ∧ n < pv3x ∧ w.heap.size < pv3x ∧ w.heap.size + 1 < pv3x ∧ w.heap.size + 1 + 1 < pv3x ∧ w.heap.size + 1 + 1 + 1 < pv3x ∧ Only n w wx)
      case first =>
        go_region_held3 (fun w' => (∀ k, w'.cell? ⟨w.heap.size, k, none⟩ = [.int .i64 x0a, .int .i64 x0b, .int .i64 x0c, .int .i64 x1a, .int .i64 x1b, .int .i64 x1c, .int .i64 x2a, .int .i64 x2b, .int .i64 x2c, .int .i64 x3a, .int .i64 x3b, .int .i64 x3c][k]?) ∧ (∀ k, w'.cell? ⟨w.heap.size + 1, k, none⟩ = [.int .i64 y0a, .int .i64 y0b, .int .i64 y0c, .int .i64 y1a, .int .i64 y1b, .int .i64 y1c, .int .i64 y2a, .int .i64 y2b, .int .i64 y2c, .int .i64 y3a, .int .i64 y3b, .int .i64 y3c][k]?))
          (((try dsimp only); (refine ⟨Blk.cell ?_, Blk.cell ?_⟩ <;> (repeat' (first | (with_reducible first | assumption | refine Blk.drew ?_ | refine Blk.drewN ?_ _ | apply Blk.set | (refine Blk.new ?_; focus (first | rfl | (simp; done))) | refine Blk.alloc ?_ _ | refine Blk.other ?_ ?_ _) | exact eqL rfl | (refine neB ?_; omega))))))
          (first
            | (go_at_call 34; refine (gave_any Cq.out Dq.out (specTimes_any x1a x1b x1c y1a y1b y1c _)).mono ?_; rintro e W9 ⟨rfl, hb⟩; (try (refine with_fact (A := Blk W9 (W1.heap.size) [.int .i64 0, .int .i64 0, .int .i64 0]) ?_ ?_; (focus (refine Blk.keep hb ?_; (repeat' (first | (with_reducible first | assumption | refine Blk.drew ?_ | refine Blk.drewN ?_ _ | apply Blk.set | (refine Blk.new ?_; focus (first | rfl | (simp; done))) | refine Blk.alloc ?_ _ | refine Blk.other ?_ ?_ _) | exact eqL rfl | (refine neB ?_; omega))); done)); intro Bz0; have cz0 := Bz0.cell; have fz0 := Bz0.free; have lz0 := Bz0.lt)); (try (refine with_fact (A := Blk W9 (W1.heap.size + 1) [.int .i64 0, .int .i64 0, .int .i64 0]) ?_ ?_; (focus (refine Blk.keep hb ?_; (repeat' (first | (with_reducible first | assumption | refine Blk.drew ?_ | refine Blk.drewN ?_ _ | apply Blk.set | (refine Blk.new ?_; focus (first | rfl | (simp; done))) | refine Blk.alloc ?_ _ | refine Blk.other ?_ ?_ _) | exact eqL rfl | (refine neB ?_; omega))); done)); intro Bz1; have cz1 := Bz1.cell; have fz1 := Bz1.free; have lz1 := Bz1.lt)); have Bfl : Blk W9 (n) [.bool g2] := Blk.keep hb (by repeat' (first | (with_reducible first | assumption | refine Blk.drew ?_ | refine Blk.drewN ?_ _ | apply Blk.set | (refine Blk.new ?_; focus (first | rfl | (simp; done))) | refine Blk.alloc ?_ _ | refine Blk.other ?_ ?_ _) | exact eqL rfl | (refine neB ?_; omega))); have Ba : Blk W9 (w.heap.size) [.int .i64 x0a, .int .i64 x0b, .int .i64 x0c, .int .i64 x1a, .int .i64 x1b, .int .i64 x1c, .int .i64 x2a, .int .i64 x2b, .int .i64 x2c, .int .i64 x3a, .int .i64 x3b, .int .i64 x3c] := Blk.keep hb (by repeat' (first | (with_reducible first | assumption | refine Blk.drew ?_ | refine Blk.drewN ?_ _ | apply Blk.set | (refine Blk.new ?_; focus (first | rfl | (simp; done))) | refine Blk.alloc ?_ _ | refine Blk.other ?_ ?_ _) | exact eqL rfl | (refine neB ?_; omega))); have Bb : Blk W9 (w.heap.size + 1) [.int .i64 y0a, .int .i64 y0b, .int .i64 y0c, .int .i64 y1a, .int .i64 y1b, .int .i64 y1c, .int .i64 y2a, .int .i64 y2b, .int .i64 y2c, .int .i64 y3a, .int .i64 y3b, .int .i64 y3c] := Blk.keep hb (by repeat' (first | (with_reducible first | assumption | refine Blk.drew ?_ | refine Blk.drewN ?_ _ | apply Blk.set | (refine Blk.new ?_; focus (first | rfl | (simp; done))) | refine Blk.alloc ?_ _ | refine Blk.other ?_ ?_ _) | exact eqL rfl | (refine neB ?_; omega))); have Br : Blk W9 (w.heap.size + 1 + 1) [.int .i64 0, .int .i64 0, .int .i64 0] := Blk.keep hb (by repeat' (first | (with_reducible first | assumption | refine Blk.drew ?_ | refine Blk.drewN ?_ _ | apply Blk.set | (refine Blk.new ?_; focus (first | rfl | (simp; done))) | refine Blk.alloc ?_ _ | refine Blk.other ?_ ?_ _) | exact eqL rfl | (refine neB ?_; omega))); have Bs : Blk W9 (w.heap.size + 1 + 1 + 1) [.int .i64 ra1, .int .i64 ra2, .int .i64 ra3] := Blk.keep hb (by repeat' (first | (with_reducible first | assumption | refine Blk.drew ?_ | refine Blk.drewN ?_ _ | apply Blk.set | (refine Blk.new ?_; focus (first | rfl | (simp; done))) | refine Blk.alloc ?_ _ | refine Blk.other ?_ ?_ _) | exact eqL rfl | (refine neB ?_; omega))); have cfl := Bfl.cell; have ffl := Bfl.free; have lfl_W9 := Bfl.lt; have ca := Ba.cell; have fa := Ba.free; have la_W9 := Ba.lt; have cb := Bb.cell; have fb := Bb.free; have lb_W9 := Bb.lt; have cr := Br.cell; have fr := Br.free; have lr_W9 := Br.lt; have cs := Bs.cell; have fs := Bs.free; have ls_W9 := Bs.lt; have kaW9 : Only n w W9 := (by refine Only.call ?_ hb; (repeat' (first | (with_reducible first | assumption | exact Only.refl _ _ | refine Only.drew ?_ | refine Only.drewN ?_ _ | refine Only.alloc ?_ _ | refine Only.here ?_ _ | refine Only.setCell ?_ ?_ _) | (refine leB ?_; omega)))); clear hb))
        all_goals
          go_wp2_with fail
        all_goals
          go_meet
          refine ⟨_, rfl, rfl, ?_⟩
          and_intros
          all_goals
            first
              | ((repeat' (first | (with_reducible first | assumption | refine Blk.drew ?_ | refine Blk.drewN ?_ _ | apply Blk.set | (refine Blk.new ?_; focus (first | rfl | (simp; done))) | refine Blk.alloc ?_ _ | refine Blk.other ?_ ?_ _) | exact eqL rfl | (refine neB ?_; omega))); done)
              | ((show Only n w _); (repeat' (first | (with_reducible first | assumption | exact Only.refl _ _ | refine Only.drew ?_ | refine Only.drewN ?_ _ | refine Only.alloc ?_ _ | refine Only.here ?_ _ | refine Only.setCell ?_ ?_ _) | (refine leB ?_; omega))); done)
              | (refine leB ?_; omega)
      case rest =>
        obtain ⟨pv3x, rfl, rfl, Bv, Bfl, Ba, Bb, Br, Bs, low5_0, low5_1, low5_2, low5_3, low5_4, kawc⟩ := hcut
        have cv := Bv.cell
        have fv := Bv.free
        have lv_wc := Bv.lt
        have cfl := Bfl.cell
        have ffl := Bfl.free
        have lfl_wc := Bfl.lt
        have ca := Ba.cell
        have fa := Ba.free
        have la_wc := Ba.lt
        have cb := Bb.cell
        have fb := Bb.free
        have lb_wc := Bb.lt
        have cr := Br.cell
        have fr := Br.free
        have lr_wc := Br.lt
        have cs := Bs.cell
        have fs := Bs.free
        have ls_wc := Bs.lt
        go_upto_region 6 with fail
        go_cut [] (fun wx => Blk wx (pv3x) [.int .i64 q1, .int .i64 q2, .int .i64 q3] ∧ Blk wx (n) [.bool g3] ∧ Blk wx (w.heap.size) [.int .i64 x0a, .int .i64 x0b, .int .i64 x0c, .int .i64 x1a, .int .i64 x1b, .int .i64 x1c, .int .i64 x2a, .int .i64 x2b, .int .i64 x2c, .int .i64 x3a, .int .i64 x3b, .int .i64 x3c] ∧ Blk wx (w.heap.size + 1) [.int .i64 y0a, .int .i64 y0b, .int .i64 y0c, .int .i64 y1a, .int .i64 y1b, .int .i64 y1c, .int .i64 y2a, .int .i64 y2b, .int .i64 y2c, .int .i64 y3a, .int .i64 y3b, .int .i64 y3c] ∧ Blk wx (w.heap.size + 1 + 1) [.int .i64 0, .int .i64 0, .int .i64 0] ∧ Blk wx (w.heap.size + 1 + 1 + 1) [.int .i64 ra1, .int .i64 ra2, .int .i64 ra3] ∧ Only n w wx)
        case first =>
          cases g2 with
          | false =>
            obtain rfl : false = g3 := G3.out
            go_wp2_with fail
            go_meet
            and_intros
            all_goals
              first
                | ((repeat' (first | (with_reducible first | assumption | refine Blk.drew ?_ | refine Blk.drewN ?_ _ | apply Blk.set | (refine Blk.new ?_; focus (first | rfl | (simp; done))) | refine Blk.alloc ?_ _ | refine Blk.other ?_ ?_ _) | exact eqL rfl | (refine neB ?_; omega))); done)
                | ((show Only n w _); (repeat' (first | (with_reducible first | assumption | exact Only.refl _ _ | refine Only.drew ?_ | refine Only.drewN ?_ _ | refine Only.alloc ?_ _ | refine Only.here ?_ _ | refine Only.setCell ?_ ?_ _) | (refine leB ?_; omega))); done)
          | true =>
            obtain rfl : kq = g3 := G3.out
            go_wp2_with fail
            go_meet
            and_intros
            all_goals
              first
                | ((repeat' (first | (with_reducible first | assumption | refine Blk.drew ?_ | refine Blk.drewN ?_ _ | apply Blk.set | (refine Blk.new ?_; focus (first | rfl | (simp; done))) | refine Blk.alloc ?_ _ | refine Blk.other ?_ ?_ _) | exact eqL rfl | (refine neB ?_; omega))); done)
                | ((show Only n w _); (repeat' (first | (with_reducible first | assumption | exact Only.refl _ _ | refine Only.drew ?_ | refine Only.drewN ?_ _ | refine Only.alloc ?_ _ | refine Only.here ?_ _ | refine Only.setCell ?_ ?_ _) | (refine leB ?_; omega))); done)
        case rest =>
          obtain ⟨Bv, Bfl, Ba, Bb, Br, Bs, kawc⟩ := hcut
          have cv := Bv.cell
          have fv := Bv.free
          have lv_wc := Bv.lt
          have cfl := Bfl.cell
          have ffl := Bfl.free
          have lfl_wc := Bfl.lt
          have ca := Ba.cell
          have fa := Ba.free
          have la_wc := Ba.lt
          have cb := Bb.cell
          have fb := Bb.free
          have lb_wc := Bb.lt
          have cr := Br.cell
          have fr := Br.free
          have lr_wc := Br.lt
          have cs := Bs.cell
          have fs := Bs.free
          have ls_wc := Bs.lt
          go_wp2_with fail
          refine (specTAdd_at (.inl rfl) Crb.out Drb.out G4.out n _ (by repeat' (first | (with_reducible first | assumption | refine Blk.drew ?_ | refine Blk.drewN ?_ _ | apply Blk.set | (refine Blk.new ?_; focus (first | rfl | (simp; done))) | refine Blk.alloc ?_ _ | refine Blk.other ?_ ?_ _) | exact eqL rfl | (refine neB ?_; omega)))).mono ?_
          rintro e W2 ⟨rfl, Bfl, ho⟩
          have Bv : Blk W2 (pv3x) [.int .i64 q1, .int .i64 q2, .int .i64 q3] := Blk.keepo ho (neB (by omega)) (by repeat' (first | (with_reducible first | assumption | refine Blk.drew ?_ | refine Blk.drewN ?_ _ | apply Blk.set | (refine Blk.new ?_; focus (first | rfl | (simp; done))) | refine Blk.alloc ?_ _ | refine Blk.other ?_ ?_ _) | exact eqL rfl | (refine neB ?_; omega)))
          have Ba : Blk W2 (w.heap.size) [.int .i64 x0a, .int .i64 x0b, .int .i64 x0c, .int .i64 x1a, .int .i64 x1b, .int .i64 x1c, .int .i64 x2a, .int .i64 x2b, .int .i64 x2c, .int .i64 x3a, .int .i64 x3b, .int .i64 x3c] := Blk.keepo ho (neB (by omega)) (by repeat' (first | (with_reducible first | assumption | refine Blk.drew ?_ | refine Blk.drewN ?_ _ | apply Blk.set | (refine Blk.new ?_; focus (first | rfl | (simp; done))) | refine Blk.alloc ?_ _ | refine Blk.other ?_ ?_ _) | exact eqL rfl | (refine neB ?_; omega)))
          have Bb : Blk W2 (w.heap.size + 1) [.int .i64 y0a, .int .i64 y0b, .int .i64 y0c, .int .i64 y1a, .int .i64 y1b, .int .i64 y1c, .int .i64 y2a, .int .i64 y2b, .int .i64 y2c, .int .i64 y3a, .int .i64 y3b, .int .i64 y3c] := Blk.keepo ho (neB (by omega)) (by repeat' (first | (with_reducible first | assumption | refine Blk.drew ?_ | refine Blk.drewN ?_ _ | apply Blk.set | (refine Blk.new ?_; focus (first | rfl | (simp; done))) | refine Blk.alloc ?_ _ | refine Blk.other ?_ ?_ _) | exact eqL rfl | (refine neB ?_; omega)))
          have Br : Blk W2 (w.heap.size + 1 + 1) [.int .i64 0, .int .i64 0, .int .i64 0] := Blk.keepo ho (neB (by omega)) (by repeat' (first | (with_reducible first | assumption | refine Blk.drew ?_ | refine Blk.drewN ?_ _ | apply Blk.set | (refine Blk.new ?_; focus (first | rfl | (simp; done))) | refine Blk.alloc ?_ _ | refine Blk.other ?_ ?_ _) | exact eqL rfl | (refine neB ?_; omega)))
          have Bs : Blk W2 (w.heap.size + 1 + 1 + 1) [.int .i64 ra1, .int .i64 ra2, .int .i64 ra3] := Blk.keepo ho (neB (by omega)) (by repeat' (first | (with_reducible first | assumption | refine Blk.drew ?_ | refine Blk.drewN ?_ _ | apply Blk.set | (refine Blk.new ?_; focus (first | rfl | (simp; done))) | refine Blk.alloc ?_ _ | refine Blk.other ?_ ?_ _) | exact eqL rfl | (refine neB ?_; omega)))
          have cv := Bv.cell
          have fv := Bv.free
          have lv_W2 := Bv.lt
          have cfl := Bfl.cell
          have ffl := Bfl.free
          have lfl_W2 := Bfl.lt
          have ca := Ba.cell
          have fa := Ba.free
          have la_W2 := Ba.lt
          have cb := Bb.cell
          have fb := Bb.free
          have lb_W2 := Bb.lt
          have cr := Br.cell
          have fr := Br.free
          have lr_W2 := Br.lt
          have cs := Bs.cell
          have fs := Bs.free
          have ls_W2 := Bs.lt
          have kaW2 : Only n w W2 := by
            refine Only.trans ?_ ho
            (repeat' (first | (with_reducible first | assumption | exact Only.refl _ _ | refine Only.drew ?_ | refine Only.drewN ?_ _ | refine Only.alloc ?_ _ | refine Only.here ?_ _ | refine Only.setCell ?_ ?_ _) | (refine leB ?_; omega)))
          have lsW2 := ho.size
          clear ho
          go_wp2_with fail
          rw [rounds_succ]
          go_wp2_with fail
          go_cut [9, 10] (fun s9 s10 wx => ∃ pv5x : Nat, s9 = .pointer (some ⟨pv5x, 0, none⟩) ∧ s10 = .bool ku ∧ Blk wx (pv5x) [.int .i64 u1, .int .i64 u2, .int .i64 u3] ∧ Blk wx (n) [.bool g4] ∧ Blk wx (w.heap.size) [.int .i64 x0a, .int .i64 x0b, .int .i64 x0c, .int .i64 x1a, .int .i64 x1b, .int .i64 x1c, .int .i64 x2a, .int .i64 x2b, .int .i64 x2c, .int .i64 x3a, .int .i64 x3b, .int .i64 x3c] ∧ Blk wx (w.heap.size + 1) [.int .i64 y0a, .int .i64 y0b, .int .i64 y0c, .int .i64 y1a, .int .i64 y1b, .int .i64 y1c, .int .i64 y2a, .int .i64 y2b, .int .i64 y2c, .int .i64 y3a, .int .i64 y3b, .int .i64 y3c] ∧ Blk wx (w.heap.size + 1 + 1) [.int .i64 0, .int .i64 0, .int .i64 0] ∧ Blk wx (w.heap.size + 1 + 1 + 1) [.int .i64 rb1, .int .i64 rb2, .int .i64 rb3] ∧ n < pv5x ∧ w.heap.size < pv5x ∧ w.heap.size + 1 < pv5x ∧ w.heap.size + 1 + 1 < pv5x ∧ w.heap.size + 1 + 1 + 1 < pv5x ∧ Only n w wx)
          case first =>
            go_region_held3 (fun w' => (∀ k, w'.cell? ⟨w.heap.size, k, none⟩ = [.int .i64 x0a, .int .i64 x0b, .int .i64 x0c, .int .i64 x1a, .int .i64 x1b, .int .i64 x1c, .int .i64 x2a, .int .i64 x2b, .int .i64 x2c, .int .i64 x3a, .int .i64 x3b, .int .i64 x3c][k]?) ∧ (∀ k, w'.cell? ⟨w.heap.size + 1, k, none⟩ = [.int .i64 y0a, .int .i64 y0b, .int .i64 y0c, .int .i64 y1a, .int .i64 y1b, .int .i64 y1c, .int .i64 y2a, .int .i64 y2b, .int .i64 y2c, .int .i64 y3a, .int .i64 y3b, .int .i64 y3c][k]?))
              (((try dsimp only); (refine ⟨Blk.cell ?_, Blk.cell ?_⟩ <;> (repeat' (first | (with_reducible first | assumption | refine Blk.drew ?_ | refine Blk.drewN ?_ _ | apply Blk.set | (refine Blk.new ?_; focus (first | rfl | (simp; done))) | refine Blk.alloc ?_ _ | refine Blk.other ?_ ?_ _) | exact eqL rfl | (refine neB ?_; omega))))))
              (first
                | (go_at_call 34; refine (gave_any Cu.out Du.out (specTimes_any x2a x2b x2c y2a y2b y2c _)).mono ?_; rintro e W9 ⟨rfl, hb⟩; (try (refine with_fact (A := Blk W9 (W2.heap.size) [.int .i64 0, .int .i64 0, .int .i64 0]) ?_ ?_; (focus (refine Blk.keep hb ?_; (repeat' (first | (with_reducible first | assumption | refine Blk.drew ?_ | refine Blk.drewN ?_ _ | apply Blk.set | (refine Blk.new ?_; focus (first | rfl | (simp; done))) | refine Blk.alloc ?_ _ | refine Blk.other ?_ ?_ _) | exact eqL rfl | (refine neB ?_; omega))); done)); intro Bz0; have cz0 := Bz0.cell; have fz0 := Bz0.free; have lz0 := Bz0.lt)); (try (refine with_fact (A := Blk W9 (W2.heap.size + 1) [.int .i64 0, .int .i64 0, .int .i64 0]) ?_ ?_; (focus (refine Blk.keep hb ?_; (repeat' (first | (with_reducible first | assumption | refine Blk.drew ?_ | refine Blk.drewN ?_ _ | apply Blk.set | (refine Blk.new ?_; focus (first | rfl | (simp; done))) | refine Blk.alloc ?_ _ | refine Blk.other ?_ ?_ _) | exact eqL rfl | (refine neB ?_; omega))); done)); intro Bz1; have cz1 := Bz1.cell; have fz1 := Bz1.free; have lz1 := Bz1.lt)); have Bfl : Blk W9 (n) [.bool g4] := Blk.keep hb (by repeat' (first | (with_reducible first | assumption | refine Blk.drew ?_ | refine Blk.drewN ?_ _ | apply Blk.set | (refine Blk.new ?_; focus (first | rfl | (simp; done))) | refine Blk.alloc ?_ _ | refine Blk.other ?_ ?_ _) | exact eqL rfl | (refine neB ?_; omega))); have Ba : Blk W9 (w.heap.size) [.int .i64 x0a, .int .i64 x0b, .int .i64 x0c, .int .i64 x1a, .int .i64 x1b, .int .i64 x1c, .int .i64 x2a, .int .i64 x2b, .int .i64 x2c, .int .i64 x3a, .int .i64 x3b, .int .i64 x3c] := Blk.keep hb (by repeat' (first | (with_reducible first | assumption | refine Blk.drew ?_ | refine Blk.drewN ?_ _ | apply Blk.set | (refine Blk.new ?_; focus (first | rfl | (simp; done))) | refine Blk.alloc ?_ _ | refine Blk.other ?_ ?_ _) | exact eqL rfl | (refine neB ?_; omega))); have Bb : Blk W9 (w.heap.size + 1) [.int .i64 y0a, .int .i64 y0b, .int .i64 y0c, .int .i64 y1a, .int .i64 y1b, .int .i64 y1c, .int .i64 y2a, .int .i64 y2b, .int .i64 y2c, .int .i64 y3a, .int .i64 y3b, .int .i64 y3c] := Blk.keep hb (by repeat' (first | (with_reducible first | assumption | refine Blk.drew ?_ | refine Blk.drewN ?_ _ | apply Blk.set | (refine Blk.new ?_; focus (first | rfl | (simp; done))) | refine Blk.alloc ?_ _ | refine Blk.other ?_ ?_ _) | exact eqL rfl | (refine neB ?_; omega))); have Br : Blk W9 (w.heap.size + 1 + 1) [.int .i64 0, .int .i64 0, .int .i64 0] := Blk.keep hb (by repeat' (first | (with_reducible first | assumption | refine Blk.drew ?_ | refine Blk.drewN ?_ _ | apply Blk.set | (refine Blk.new ?_; focus (first | rfl | (simp; done))) | refine Blk.alloc ?_ _ | refine Blk.other ?_ ?_ _) | exact eqL rfl | (refine neB ?_; omega))); have Bs : Blk W9 (w.heap.size + 1 + 1 + 1) [.int .i64 rb1, .int .i64 rb2, .int .i64 rb3] := Blk.keep hb (by repeat' (first | (with_reducible first | assumption | refine Blk.drew ?_ | refine Blk.drewN ?_ _ | apply Blk.set | (refine Blk.new ?_; focus (first | rfl | (simp; done))) | refine Blk.alloc ?_ _ | refine Blk.other ?_ ?_ _) | exact eqL rfl | (refine neB ?_; omega))); have cfl := Bfl.cell; have ffl := Bfl.free; have lfl_W9 := Bfl.lt; have ca := Ba.cell; have fa := Ba.free; have la_W9 := Ba.lt; have cb := Bb.cell; have fb := Bb.free; have lb_W9 := Bb.lt; have cr := Br.cell; have fr := Br.free; have lr_W9 := Br.lt; have cs := Bs.cell; have fs := Bs.free; have ls_W9 := Bs.lt; have kaW9 : Only n w W9 := (by refine Only.call ?_ hb; (repeat' (first | (with_reducible first | assumption | exact Only.refl _ _ | refine Only.drew ?_ | refine Only.drewN ?_ _ | refine Only.alloc ?_ _ | refine Only.here ?_ _ | refine Only.setCell ?_ ?_ _) | (refine leB ?_; omega)))); clear hb))
            all_goals
              go_wp2_with fail
            all_goals
              go_meet
              refine ⟨_, rfl, rfl, ?_⟩
              and_intros
              all_goals
                first
                  | ((repeat' (first | (with_reducible first | assumption | refine Blk.drew ?_ | refine Blk.drewN ?_ _ | apply Blk.set | (refine Blk.new ?_; focus (first | rfl | (simp; done))) | refine Blk.alloc ?_ _ | refine Blk.other ?_ ?_ _) | exact eqL rfl | (refine neB ?_; omega))); done)
                  | ((show Only n w _); (repeat' (first | (with_reducible first | assumption | exact Only.refl _ _ | refine Only.drew ?_ | refine Only.drewN ?_ _ | refine Only.alloc ?_ _ | refine Only.here ?_ _ | refine Only.setCell ?_ ?_ _) | (refine leB ?_; omega))); done)
                  | (refine leB ?_; omega)
          case rest =>
            obtain ⟨pv5x, rfl, rfl, Bv, Bfl, Ba, Bb, Br, Bs, low5_0, low5_1, low5_2, low5_3, low5_4, kawc⟩ := hcut
            have cv := Bv.cell
            have fv := Bv.free
            have lv_wc := Bv.lt
            have cfl := Bfl.cell
            have ffl := Bfl.free
            have lfl_wc := Bfl.lt
            have ca := Ba.cell
            have fa := Ba.free
            have la_wc := Ba.lt
            have cb := Bb.cell
            have fb := Bb.free
            have lb_wc := Bb.lt
            have cr := Br.cell
            have fr := Br.free
            have lr_wc := Br.lt
            have cs := Bs.cell
            have fs := Bs.free
            have ls_wc := Bs.lt
            go_upto_region 6 with fail
            go_cut [] (fun wx => Blk wx (pv5x) [.int .i64 u1, .int .i64 u2, .int .i64 u3] ∧ Blk wx (n) [.bool g5] ∧ Blk wx (w.heap.size) [.int .i64 x0a, .int .i64 x0b, .int .i64 x0c, .int .i64 x1a, .int .i64 x1b, .int .i64 x1c, .int .i64 x2a, .int .i64 x2b, .int .i64 x2c, .int .i64 x3a, .int .i64 x3b, .int .i64 x3c] ∧ Blk wx (w.heap.size + 1) [.int .i64 y0a, .int .i64 y0b, .int .i64 y0c, .int .i64 y1a, .int .i64 y1b, .int .i64 y1c, .int .i64 y2a, .int .i64 y2b, .int .i64 y2c, .int .i64 y3a, .int .i64 y3b, .int .i64 y3c] ∧ Blk wx (w.heap.size + 1 + 1) [.int .i64 0, .int .i64 0, .int .i64 0] ∧ Blk wx (w.heap.size + 1 + 1 + 1) [.int .i64 rb1, .int .i64 rb2, .int .i64 rb3] ∧ Only n w wx)
            case first =>
              cases g4 with
              | false =>
                obtain rfl : false = g5 := G5.out
                go_wp2_with fail
                go_meet
                and_intros
                all_goals
                  first
                    | ((repeat' (first | (with_reducible first | assumption | refine Blk.drew ?_ | refine Blk.drewN ?_ _ | apply Blk.set | (refine Blk.new ?_; focus (first | rfl | (simp; done))) | refine Blk.alloc ?_ _ | refine Blk.other ?_ ?_ _) | exact eqL rfl | (refine neB ?_; omega))); done)
                    | ((show Only n w _); (repeat' (first | (with_reducible first | assumption | exact Only.refl _ _ | refine Only.drew ?_ | refine Only.drewN ?_ _ | refine Only.alloc ?_ _ | refine Only.here ?_ _ | refine Only.setCell ?_ ?_ _) | (refine leB ?_; omega))); done)
              | true =>
                obtain rfl : ku = g5 := G5.out
                go_wp2_with fail
                go_meet
                and_intros
                all_goals
                  first
                    | ((repeat' (first | (with_reducible first | assumption | refine Blk.drew ?_ | refine Blk.drewN ?_ _ | apply Blk.set | (refine Blk.new ?_; focus (first | rfl | (simp; done))) | refine Blk.alloc ?_ _ | refine Blk.other ?_ ?_ _) | exact eqL rfl | (refine neB ?_; omega))); done)
                    | ((show Only n w _); (repeat' (first | (with_reducible first | assumption | exact Only.refl _ _ | refine Only.drew ?_ | refine Only.drewN ?_ _ | refine Only.alloc ?_ _ | refine Only.here ?_ _ | refine Only.setCell ?_ ?_ _) | (refine leB ?_; omega))); done)
            case rest =>
              obtain ⟨Bv, Bfl, Ba, Bb, Br, Bs, kawc⟩ := hcut
              have cv := Bv.cell
              have fv := Bv.free
              have lv_wc := Bv.lt
              have cfl := Bfl.cell
              have ffl := Bfl.free
              have lfl_wc := Bfl.lt
              have ca := Ba.cell
              have fa := Ba.free
              have la_wc := Ba.lt
              have cb := Bb.cell
              have fb := Bb.free
              have lb_wc := Bb.lt
              have cr := Br.cell
              have fr := Br.free
              have lr_wc := Br.lt
              have cs := Bs.cell
              have fs := Bs.free
              have ls_wc := Bs.lt
              go_wp2_with fail
              refine (specTAdd_at (.inl rfl) Crc.out Drc.out G6.out n _ (by repeat' (first | (with_reducible first | assumption | refine Blk.drew ?_ | refine Blk.drewN ?_ _ | apply Blk.set | (refine Blk.new ?_; focus (first | rfl | (simp; done))) | refine Blk.alloc ?_ _ | refine Blk.other ?_ ?_ _) | exact eqL rfl | (refine neB ?_; omega)))).mono ?_
              rintro e W3 ⟨rfl, Bfl, ho⟩
              have Bv : Blk W3 (pv5x) [.int .i64 u1, .int .i64 u2, .int .i64 u3] := Blk.keepo ho (neB (by omega)) (by repeat' (first | (with_reducible first | assumption | refine Blk.drew ?_ | refine Blk.drewN ?_ _ | apply Blk.set | (refine Blk.new ?_; focus (first | rfl | (simp; done))) | refine Blk.alloc ?_ _ | refine Blk.other ?_ ?_ _) | exact eqL rfl | (refine neB ?_; omega)))
              have Ba : Blk W3 (w.heap.size) [.int .i64 x0a, .int .i64 x0b, .int .i64 x0c, .int .i64 x1a, .int .i64 x1b, .int .i64 x1c, .int .i64 x2a, .int .i64 x2b, .int .i64 x2c, .int .i64 x3a, .int .i64 x3b, .int .i64 x3c] := Blk.keepo ho (neB (by omega)) (by repeat' (first | (with_reducible first | assumption | refine Blk.drew ?_ | refine Blk.drewN ?_ _ | apply Blk.set | (refine Blk.new ?_; focus (first | rfl | (simp; done))) | refine Blk.alloc ?_ _ | refine Blk.other ?_ ?_ _) | exact eqL rfl | (refine neB ?_; omega)))
              have Bb : Blk W3 (w.heap.size + 1) [.int .i64 y0a, .int .i64 y0b, .int .i64 y0c, .int .i64 y1a, .int .i64 y1b, .int .i64 y1c, .int .i64 y2a, .int .i64 y2b, .int .i64 y2c, .int .i64 y3a, .int .i64 y3b, .int .i64 y3c] := Blk.keepo ho (neB (by omega)) (by repeat' (first | (with_reducible first | assumption | refine Blk.drew ?_ | refine Blk.drewN ?_ _ | apply Blk.set | (refine Blk.new ?_; focus (first | rfl | (simp; done))) | refine Blk.alloc ?_ _ | refine Blk.other ?_ ?_ _) | exact eqL rfl | (refine neB ?_; omega)))
              have Br : Blk W3 (w.heap.size + 1 + 1) [.int .i64 0, .int .i64 0, .int .i64 0] := Blk.keepo ho (neB (by omega)) (by repeat' (first | (with_reducible first | assumption | refine Blk.drew ?_ | refine Blk.drewN ?_ _ | apply Blk.set | (refine Blk.new ?_; focus (first | rfl | (simp; done))) | refine Blk.alloc ?_ _ | refine Blk.other ?_ ?_ _) | exact eqL rfl | (refine neB ?_; omega)))
              have Bs : Blk W3 (w.heap.size + 1 + 1 + 1) [.int .i64 rb1, .int .i64 rb2, .int .i64 rb3] := Blk.keepo ho (neB (by omega)) (by repeat' (first | (with_reducible first | assumption | refine Blk.drew ?_ | refine Blk.drewN ?_ _ | apply Blk.set | (refine Blk.new ?_; focus (first | rfl | (simp; done))) | refine Blk.alloc ?_ _ | refine Blk.other ?_ ?_ _) | exact eqL rfl | (refine neB ?_; omega)))
              have cv := Bv.cell
              have fv := Bv.free
              have lv_W3 := Bv.lt
              have cfl := Bfl.cell
              have ffl := Bfl.free
              have lfl_W3 := Bfl.lt
              have ca := Ba.cell
              have fa := Ba.free
              have la_W3 := Ba.lt
              have cb := Bb.cell
              have fb := Bb.free
              have lb_W3 := Bb.lt
              have cr := Br.cell
              have fr := Br.free
              have lr_W3 := Br.lt
              have cs := Bs.cell
              have fs := Bs.free
              have ls_W3 := Bs.lt
              have kaW3 : Only n w W3 := by
                refine Only.trans ?_ ho
                (repeat' (first | (with_reducible first | assumption | exact Only.refl _ _ | refine Only.drew ?_ | refine Only.drewN ?_ _ | refine Only.alloc ?_ _ | refine Only.here ?_ _ | refine Only.setCell ?_ ?_ _) | (refine leB ?_; omega)))
              have lsW3 := ho.size
              clear ho
              go_wp2_with fail
              rw [rounds_succ]
              go_wp2_with fail
              go_cut [9, 10] (fun s9 s10 wx => ∃ pv7x : Nat, s9 = .pointer (some ⟨pv7x, 0, none⟩) ∧ s10 = .bool kv ∧ Blk wx (pv7x) [.int .i64 v1, .int .i64 v2, .int .i64 v3] ∧ Blk wx (n) [.bool g6] ∧ Blk wx (w.heap.size) [.int .i64 x0a, .int .i64 x0b, .int .i64 x0c, .int .i64 x1a, .int .i64 x1b, .int .i64 x1c, .int .i64 x2a, .int .i64 x2b, .int .i64 x2c, .int .i64 x3a, .int .i64 x3b, .int .i64 x3c] ∧ Blk wx (w.heap.size + 1) [.int .i64 y0a, .int .i64 y0b, .int .i64 y0c, .int .i64 y1a, .int .i64 y1b, .int .i64 y1c, .int .i64 y2a, .int .i64 y2b, .int .i64 y2c, .int .i64 y3a, .int .i64 y3b, .int .i64 y3c] ∧ Blk wx (w.heap.size + 1 + 1) [.int .i64 0, .int .i64 0, .int .i64 0] ∧ Blk wx (w.heap.size + 1 + 1 + 1) [.int .i64 rc1, .int .i64 rc2, .int .i64 rc3] ∧ n < pv7x ∧ w.heap.size < pv7x ∧ w.heap.size + 1 < pv7x ∧ w.heap.size + 1 + 1 < pv7x ∧ w.heap.size + 1 + 1 + 1 < pv7x ∧ Only n w wx)
              case first =>
                go_region_held3 (fun w' => (∀ k, w'.cell? ⟨w.heap.size, k, none⟩ = [.int .i64 x0a, .int .i64 x0b, .int .i64 x0c, .int .i64 x1a, .int .i64 x1b, .int .i64 x1c, .int .i64 x2a, .int .i64 x2b, .int .i64 x2c, .int .i64 x3a, .int .i64 x3b, .int .i64 x3c][k]?) ∧ (∀ k, w'.cell? ⟨w.heap.size + 1, k, none⟩ = [.int .i64 y0a, .int .i64 y0b, .int .i64 y0c, .int .i64 y1a, .int .i64 y1b, .int .i64 y1c, .int .i64 y2a, .int .i64 y2b, .int .i64 y2c, .int .i64 y3a, .int .i64 y3b, .int .i64 y3c][k]?))
                  (((try dsimp only); (refine ⟨Blk.cell ?_, Blk.cell ?_⟩ <;> (repeat' (first | (with_reducible first | assumption | refine Blk.drew ?_ | refine Blk.drewN ?_ _ | apply Blk.set | (refine Blk.new ?_; focus (first | rfl | (simp; done))) | refine Blk.alloc ?_ _ | refine Blk.other ?_ ?_ _) | exact eqL rfl | (refine neB ?_; omega))))))
                  (first
                    | (go_at_call 34; refine (gave_any Cv.out Dv.out (specTimes_any x3a x3b x3c y3a y3b y3c _)).mono ?_; rintro e W9 ⟨rfl, hb⟩; (try (refine with_fact (A := Blk W9 (W3.heap.size) [.int .i64 0, .int .i64 0, .int .i64 0]) ?_ ?_; (focus (refine Blk.keep hb ?_; (repeat' (first | (with_reducible first | assumption | refine Blk.drew ?_ | refine Blk.drewN ?_ _ | apply Blk.set | (refine Blk.new ?_; focus (first | rfl | (simp; done))) | refine Blk.alloc ?_ _ | refine Blk.other ?_ ?_ _) | exact eqL rfl | (refine neB ?_; omega))); done)); intro Bz0; have cz0 := Bz0.cell; have fz0 := Bz0.free; have lz0 := Bz0.lt)); (try (refine with_fact (A := Blk W9 (W3.heap.size + 1) [.int .i64 0, .int .i64 0, .int .i64 0]) ?_ ?_; (focus (refine Blk.keep hb ?_; (repeat' (first | (with_reducible first | assumption | refine Blk.drew ?_ | refine Blk.drewN ?_ _ | apply Blk.set | (refine Blk.new ?_; focus (first | rfl | (simp; done))) | refine Blk.alloc ?_ _ | refine Blk.other ?_ ?_ _) | exact eqL rfl | (refine neB ?_; omega))); done)); intro Bz1; have cz1 := Bz1.cell; have fz1 := Bz1.free; have lz1 := Bz1.lt)); have Bfl : Blk W9 (n) [.bool g6] := Blk.keep hb (by repeat' (first | (with_reducible first | assumption | refine Blk.drew ?_ | refine Blk.drewN ?_ _ | apply Blk.set | (refine Blk.new ?_; focus (first | rfl | (simp; done))) | refine Blk.alloc ?_ _ | refine Blk.other ?_ ?_ _) | exact eqL rfl | (refine neB ?_; omega))); have Ba : Blk W9 (w.heap.size) [.int .i64 x0a, .int .i64 x0b, .int .i64 x0c, .int .i64 x1a, .int .i64 x1b, .int .i64 x1c, .int .i64 x2a, .int .i64 x2b, .int .i64 x2c, .int .i64 x3a, .int .i64 x3b, .int .i64 x3c] := Blk.keep hb (by repeat' (first | (with_reducible first | assumption | refine Blk.drew ?_ | refine Blk.drewN ?_ _ | apply Blk.set | (refine Blk.new ?_; focus (first | rfl | (simp; done))) | refine Blk.alloc ?_ _ | refine Blk.other ?_ ?_ _) | exact eqL rfl | (refine neB ?_; omega))); have Bb : Blk W9 (w.heap.size + 1) [.int .i64 y0a, .int .i64 y0b, .int .i64 y0c, .int .i64 y1a, .int .i64 y1b, .int .i64 y1c, .int .i64 y2a, .int .i64 y2b, .int .i64 y2c, .int .i64 y3a, .int .i64 y3b, .int .i64 y3c] := Blk.keep hb (by repeat' (first | (with_reducible first | assumption | refine Blk.drew ?_ | refine Blk.drewN ?_ _ | apply Blk.set | (refine Blk.new ?_; focus (first | rfl | (simp; done))) | refine Blk.alloc ?_ _ | refine Blk.other ?_ ?_ _) | exact eqL rfl | (refine neB ?_; omega))); have Br : Blk W9 (w.heap.size + 1 + 1) [.int .i64 0, .int .i64 0, .int .i64 0] := Blk.keep hb (by repeat' (first | (with_reducible first | assumption | refine Blk.drew ?_ | refine Blk.drewN ?_ _ | apply Blk.set | (refine Blk.new ?_; focus (first | rfl | (simp; done))) | refine Blk.alloc ?_ _ | refine Blk.other ?_ ?_ _) | exact eqL rfl | (refine neB ?_; omega))); have Bs : Blk W9 (w.heap.size + 1 + 1 + 1) [.int .i64 rc1, .int .i64 rc2, .int .i64 rc3] := Blk.keep hb (by repeat' (first | (with_reducible first | assumption | refine Blk.drew ?_ | refine Blk.drewN ?_ _ | apply Blk.set | (refine Blk.new ?_; focus (first | rfl | (simp; done))) | refine Blk.alloc ?_ _ | refine Blk.other ?_ ?_ _) | exact eqL rfl | (refine neB ?_; omega))); have cfl := Bfl.cell; have ffl := Bfl.free; have lfl_W9 := Bfl.lt; have ca := Ba.cell; have fa := Ba.free; have la_W9 := Ba.lt; have cb := Bb.cell; have fb := Bb.free; have lb_W9 := Bb.lt; have cr := Br.cell; have fr := Br.free; have lr_W9 := Br.lt; have cs := Bs.cell; have fs := Bs.free; have ls_W9 := Bs.lt; have kaW9 : Only n w W9 := (by refine Only.call ?_ hb; (repeat' (first | (with_reducible first | assumption | exact Only.refl _ _ | refine Only.drew ?_ | refine Only.drewN ?_ _ | refine Only.alloc ?_ _ | refine Only.here ?_ _ | refine Only.setCell ?_ ?_ _) | (refine leB ?_; omega)))); clear hb))
                all_goals
                  go_wp2_with fail
                all_goals
                  go_meet
                  refine ⟨_, rfl, rfl, ?_⟩
                  and_intros
                  all_goals
                    first
                      | ((repeat' (first | (with_reducible first | assumption | refine Blk.drew ?_ | refine Blk.drewN ?_ _ | apply Blk.set | (refine Blk.new ?_; focus (first | rfl | (simp; done))) | refine Blk.alloc ?_ _ | refine Blk.other ?_ ?_ _) | exact eqL rfl | (refine neB ?_; omega))); done)
                      | ((show Only n w _); (repeat' (first | (with_reducible first | assumption | exact Only.refl _ _ | refine Only.drew ?_ | refine Only.drewN ?_ _ | refine Only.alloc ?_ _ | refine Only.here ?_ _ | refine Only.setCell ?_ ?_ _) | (refine leB ?_; omega))); done)
                      | (refine leB ?_; omega)
              case rest =>
                obtain ⟨pv7x, rfl, rfl, Bv, Bfl, Ba, Bb, Br, Bs, low5_0, low5_1, low5_2, low5_3, low5_4, kawc⟩ := hcut
                have cv := Bv.cell
                have fv := Bv.free
                have lv_wc := Bv.lt
                have cfl := Bfl.cell
                have ffl := Bfl.free
                have lfl_wc := Bfl.lt
                have ca := Ba.cell
                have fa := Ba.free
                have la_wc := Ba.lt
                have cb := Bb.cell
                have fb := Bb.free
                have lb_wc := Bb.lt
                have cr := Br.cell
                have fr := Br.free
                have lr_wc := Br.lt
                have cs := Bs.cell
                have fs := Bs.free
                have ls_wc := Bs.lt
                go_upto_region 6 with fail
                go_cut [] (fun wx => Blk wx (pv7x) [.int .i64 v1, .int .i64 v2, .int .i64 v3] ∧ Blk wx (n) [.bool g7] ∧ Blk wx (w.heap.size) [.int .i64 x0a, .int .i64 x0b, .int .i64 x0c, .int .i64 x1a, .int .i64 x1b, .int .i64 x1c, .int .i64 x2a, .int .i64 x2b, .int .i64 x2c, .int .i64 x3a, .int .i64 x3b, .int .i64 x3c] ∧ Blk wx (w.heap.size + 1) [.int .i64 y0a, .int .i64 y0b, .int .i64 y0c, .int .i64 y1a, .int .i64 y1b, .int .i64 y1c, .int .i64 y2a, .int .i64 y2b, .int .i64 y2c, .int .i64 y3a, .int .i64 y3b, .int .i64 y3c] ∧ Blk wx (w.heap.size + 1 + 1) [.int .i64 0, .int .i64 0, .int .i64 0] ∧ Blk wx (w.heap.size + 1 + 1 + 1) [.int .i64 rc1, .int .i64 rc2, .int .i64 rc3] ∧ Only n w wx)
                case first =>
                  cases g6 with
                  | false =>
                    obtain rfl : false = g7 := G7.out
                    go_wp2_with fail
                    go_meet
                    and_intros
                    all_goals
                      first
                        | ((repeat' (first | (with_reducible first | assumption | refine Blk.drew ?_ | refine Blk.drewN ?_ _ | apply Blk.set | (refine Blk.new ?_; focus (first | rfl | (simp; done))) | refine Blk.alloc ?_ _ | refine Blk.other ?_ ?_ _) | exact eqL rfl | (refine neB ?_; omega))); done)
                        | ((show Only n w _); (repeat' (first | (with_reducible first | assumption | exact Only.refl _ _ | refine Only.drew ?_ | refine Only.drewN ?_ _ | refine Only.alloc ?_ _ | refine Only.here ?_ _ | refine Only.setCell ?_ ?_ _) | (refine leB ?_; omega))); done)
                  | true =>
                    obtain rfl : kv = g7 := G7.out
                    go_wp2_with fail
                    go_meet
                    and_intros
                    all_goals
                      first
                        | ((repeat' (first | (with_reducible first | assumption | refine Blk.drew ?_ | refine Blk.drewN ?_ _ | apply Blk.set | (refine Blk.new ?_; focus (first | rfl | (simp; done))) | refine Blk.alloc ?_ _ | refine Blk.other ?_ ?_ _) | exact eqL rfl | (refine neB ?_; omega))); done)
                        | ((show Only n w _); (repeat' (first | (with_reducible first | assumption | exact Only.refl _ _ | refine Only.drew ?_ | refine Only.drewN ?_ _ | refine Only.alloc ?_ _ | refine Only.here ?_ _ | refine Only.setCell ?_ ?_ _) | (refine leB ?_; omega))); done)
                case rest =>
                  obtain ⟨Bv, Bfl, Ba, Bb, Br, Bs, kawc⟩ := hcut
                  have cv := Bv.cell
                  have fv := Bv.free
                  have lv_wc := Bv.lt
                  have cfl := Bfl.cell
                  have ffl := Bfl.free
                  have lfl_wc := Bfl.lt
                  have ca := Ba.cell
                  have fa := Ba.free
                  have la_wc := Ba.lt
                  have cb := Bb.cell
                  have fb := Bb.free
                  have lb_wc := Bb.lt
                  have cr := Br.cell
                  have fr := Br.free
                  have lr_wc := Br.lt
                  have cs := Bs.cell
                  have fs := Bs.free
                  have ls_wc := Bs.lt
                  go_wp2_with fail
                  refine (specTAdd_at (.inl rfl) Crd.out Drd.out G8.out n _ (by repeat' (first | (with_reducible first | assumption | refine Blk.drew ?_ | refine Blk.drewN ?_ _ | apply Blk.set | (refine Blk.new ?_; focus (first | rfl | (simp; done))) | refine Blk.alloc ?_ _ | refine Blk.other ?_ ?_ _) | exact eqL rfl | (refine neB ?_; omega)))).mono ?_
                  rintro e W4 ⟨rfl, Bfl, ho⟩
                  have Bv : Blk W4 (pv7x) [.int .i64 v1, .int .i64 v2, .int .i64 v3] := Blk.keepo ho (neB (by omega)) (by repeat' (first | (with_reducible first | assumption | refine Blk.drew ?_ | refine Blk.drewN ?_ _ | apply Blk.set | (refine Blk.new ?_; focus (first | rfl | (simp; done))) | refine Blk.alloc ?_ _ | refine Blk.other ?_ ?_ _) | exact eqL rfl | (refine neB ?_; omega)))
                  have Ba : Blk W4 (w.heap.size) [.int .i64 x0a, .int .i64 x0b, .int .i64 x0c, .int .i64 x1a, .int .i64 x1b, .int .i64 x1c, .int .i64 x2a, .int .i64 x2b, .int .i64 x2c, .int .i64 x3a, .int .i64 x3b, .int .i64 x3c] := Blk.keepo ho (neB (by omega)) (by repeat' (first | (with_reducible first | assumption | refine Blk.drew ?_ | refine Blk.drewN ?_ _ | apply Blk.set | (refine Blk.new ?_; focus (first | rfl | (simp; done))) | refine Blk.alloc ?_ _ | refine Blk.other ?_ ?_ _) | exact eqL rfl | (refine neB ?_; omega)))
                  have Bb : Blk W4 (w.heap.size + 1) [.int .i64 y0a, .int .i64 y0b, .int .i64 y0c, .int .i64 y1a, .int .i64 y1b, .int .i64 y1c, .int .i64 y2a, .int .i64 y2b, .int .i64 y2c, .int .i64 y3a, .int .i64 y3b, .int .i64 y3c] := Blk.keepo ho (neB (by omega)) (by repeat' (first | (with_reducible first | assumption | refine Blk.drew ?_ | refine Blk.drewN ?_ _ | apply Blk.set | (refine Blk.new ?_; focus (first | rfl | (simp; done))) | refine Blk.alloc ?_ _ | refine Blk.other ?_ ?_ _) | exact eqL rfl | (refine neB ?_; omega)))
                  have Br : Blk W4 (w.heap.size + 1 + 1) [.int .i64 0, .int .i64 0, .int .i64 0] := Blk.keepo ho (neB (by omega)) (by repeat' (first | (with_reducible first | assumption | refine Blk.drew ?_ | refine Blk.drewN ?_ _ | apply Blk.set | (refine Blk.new ?_; focus (first | rfl | (simp; done))) | refine Blk.alloc ?_ _ | refine Blk.other ?_ ?_ _) | exact eqL rfl | (refine neB ?_; omega)))
                  have Bs : Blk W4 (w.heap.size + 1 + 1 + 1) [.int .i64 rc1, .int .i64 rc2, .int .i64 rc3] := Blk.keepo ho (neB (by omega)) (by repeat' (first | (with_reducible first | assumption | refine Blk.drew ?_ | refine Blk.drewN ?_ _ | apply Blk.set | (refine Blk.new ?_; focus (first | rfl | (simp; done))) | refine Blk.alloc ?_ _ | refine Blk.other ?_ ?_ _) | exact eqL rfl | (refine neB ?_; omega)))
                  have cv := Bv.cell
                  have fv := Bv.free
                  have lv_W4 := Bv.lt
                  have cfl := Bfl.cell
                  have ffl := Bfl.free
                  have lfl_W4 := Bfl.lt
                  have ca := Ba.cell
                  have fa := Ba.free
                  have la_W4 := Ba.lt
                  have cb := Bb.cell
                  have fb := Bb.free
                  have lb_W4 := Bb.lt
                  have cr := Br.cell
                  have fr := Br.free
                  have lr_W4 := Br.lt
                  have cs := Bs.cell
                  have fs := Bs.free
                  have ls_W4 := Bs.lt
                  have kaW4 : Only n w W4 := by
                    refine Only.trans ?_ ho
                    (repeat' (first | (with_reducible first | assumption | exact Only.refl _ _ | refine Only.drew ?_ | refine Only.drewN ?_ _ | refine Only.alloc ?_ _ | refine Only.here ?_ _ | refine Only.setCell ?_ ?_ _) | (refine leB ?_; omega)))
                  have lsW4 := ho.size
                  clear ho
                  go_wp2_with fail
                  rw [rounds_succ]
                  go_wp2_with fail
                  obtain rfl : g8 = g := by
                    have e := HF.out
                    have e1 := G1.out
                    have e2 := G2.out
                    have e3 := G3.out
                    have e4 := G4.out
                    have e5 := G5.out
                    have e6 := G6.out
                    have e7 := G7.out
                    have e8 := G8.out
                    clear G1 G2 G3 G4 G5 G6 G7 G8 HF
                    subst e1
                    subst e2
                    subst e3
                    subst e4
                    subst e5
                    subst e6
                    subst e7
                    subst e8
                    subst e
                    simp only [Bool.and_assoc]
                  refine bodyPost_ret (v := .agg #[.int .i64 rd1, .int .i64 rd2, .int .i64 rd3]) (by simp [results, Tryd.results18, go_sem, *]) rfl ⟨rfl, ?_, ?_⟩
                  · (repeat' (first | (with_reducible first | assumption | refine Blk.drew ?_ | refine Blk.drewN ?_ _ | apply Blk.set | (refine Blk.new ?_; focus (first | rfl | (simp; done))) | refine Blk.alloc ?_ _ | refine Blk.other ?_ ?_ _) | exact eqL rfl | (refine neB ?_; omega)))
                  · show Only n w _
                    (repeat' (first | (with_reducible first | assumption | exact Only.refl _ _ | refine Only.drew ?_ | refine Only.drewN ?_ _ | refine Only.alloc ?_ _ | refine Only.here ?_ _ | refine Only.setCell ?_ ?_ _) | (refine leB ?_; omega)))
end Go.Proofs.YtgmpbdndkjnbfaaDoor
