/-
  The law FnPowers.
-/
import Derived.Test.YtpgklllgmfaekaaGreatDoorRealFilm
import Derived.Test.YtpgklllgmfaekaaGreatDoorDrawFilm2
import Derived.Test.YtpgklllgmfaekaaGreatDoorFlmMath3
import Derived.Test.YtpgklllgmfaekaaGreatDoorImplF6
import Derived.Test.YtpgklllgmfaekaaGreatDoorSpecF5
import Derived.Test.YtpgklllgmfaekaaGreatDoorEqVec
import Derived.Test.YtpgklllgmfaekaaGreatDoorBImplF
import Derived.Laws.AppendOwn
namespace Go.Proofs.YtpgklllgmfaekaaGreatDoor
open Go.ChangeShapes Go.WideShapes Go.ChangeAt Go.RowKit
set_option linter.unusedVariables false

set_option linter.unusedSimpArgs false
theorem powM_ok {ls : List L4} {a b p s : F3} (h : powM ls a b = some (p, s)) : okT p = true ∧ okT s = true := by
  unfold powM at h
  obtain ⟨r, h1, g1⟩ := Option.bind_eq_some_iff.1 h
  obtain ⟨t, h2, g2⟩ := Option.bind_eq_some_iff.1 g1
  obtain ⟨p', h3, g3⟩ := Option.bind_eq_some_iff.1 g2
  obtain ⟨q, h4, g4⟩ := Option.bind_eq_some_iff.1 g3
  obtain ⟨xx, h5, g5⟩ := Option.bind_eq_some_iff.1 g4
  obtain ⟨yy, h6, g6⟩ := Option.bind_eq_some_iff.1 g5
  obtain ⟨zz, h7, g7⟩ := Option.bind_eq_some_iff.1 g6
  obtain ⟨s', h8, g8⟩ := Option.bind_eq_some_iff.1 g7
  obtain ⟨rfl, rfl⟩ : p' = p ∧ s' = s := by simpa using g8
  exact ⟨(powT_val h3).2.1, (oT_val h8).2.2.1⟩
theorem eqSelf2 (a b c : Int) (w : World) : (Op.equalIn 10000 25 (.agg #[.int .i64 a, .int .i64 b, .int .i64 c]) (.agg #[.int .i64 a, .int .i64 b, .int .i64 c])).run Tryz.prog w = .ok true w := (eqFr 9998 a b c a b c w).trans (by simp)
theorem gave33_at2 (o : Option (F3 × F3)) : ∃ r1 r2 r3 r4 r5 r6 : Int, ∃ k : Bool, (k = true → o = some ((r1, r2, r3), (r4, r5, r6))) ∧ (k = false → o = none) ∧ ∀ P f ar w, Calls P f ar w (Gave33 o w) → Calls P f ar w fun e w' => e = .returned (.tuple #[.agg #[.int .i64 r1, .int .i64 r2, .int .i64 r3], .agg #[.int .i64 r4, .int .i64 r5, .int .i64 r6], .bool k]) ∧ Below w.heap.size w w' := by
  cases o with
  | none => exact ⟨0, 0, 0, 0, 0, 0, false, (fun h => by cases h), (fun _ => rfl), fun P f ar w c => c.mono fun e w' h => ⟨h.2.1 rfl, h.2.2⟩⟩
  | some v =>
    obtain ⟨⟨u1, u2, u3⟩, u4, u5, u6⟩ := v
    exact ⟨u1, u2, u3, u4, u5, u6, true, (fun _ => rfl), (fun h => by cases h), fun P f ar w c => c.mono fun e w' h => ⟨h.1 _ _ _ _ _ _ rfl, h.2.2⟩⟩
set_option maxHeartbeats 8000000 in
theorem drawPow_any (a : Option Addr) (len cap : Nat) (w : World) (h : Code8 w a len cap) :
    Calls Tryz.prog 4 #[.slice a len cap] w (DrewB w) := by
  have H0 := Lib.hid ((h.alloc (.cells #[.int .i64 0, .int .i64 0, .int .i64 0] 25)).alloc (.cells #[.int .i64 0, .int .i64 0, .int .i64 0] 25))
  clear h
  go_enter Tryz.func4, Tryz.ntmps4
  go_wp2_with fail
  refine (between_any' a len cap _ H0.out).mono ?_
  rintro e W1 ⟨g, ls, cap', x1, x2, x3, y1, y2, y3, rfl, hc, hwg, hi4, hle, hxi, hyi, hb⟩
  have HC := Lib.hid hc
  have HIL := Lib.hid hi4
  have hwg' : w.heap.size + 1 + 1 ≤ g := by simpa using hwg
  clear hc hi4 hwg
  obtain ⟨Br, Bs⟩ : Blk W1 (w.heap.size) [.int .i64 0, .int .i64 0, .int .i64 0] ∧ Blk W1 (w.heap.size + 1) [.int .i64 0, .int .i64 0, .int .i64 0] := by
    refine ⟨?_, ?_⟩ <;> refine Blk.keep hb ?_ <;> (repeat' (first | (with_reducible first | assumption | refine Blk.drew ?_ | refine Blk.drewN ?_ _ | apply Blk.set | (refine Blk.new ?_; focus (first | rfl | (simp; done))) | refine Blk.alloc ?_ _ | refine Blk.other ?_ ?_ _) | exact eqL rfl | (refine neB ?_; omega)))
  have cr := Br.cell
  have fr := Br.free
  have lr_W1 := Br.lt
  have cs := Bs.cell
  have fs := Bs.free
  have ls_W1 := Bs.lt
  have kaW1 : Acc w W1 := by
    refine Acc.call ?_ hb
    (repeat' (first | (with_reducible first | assumption | exact Acc.refl _ | refine Acc.drew ?_ | refine Acc.drewN ?_ _ | refine Acc.alloc ?_ _ | refine Acc.setCell ?_ ?_ _) | (refine leB ?_; omega)))
  clear hb
  go_wp2_with fail
  refine bodyPost_ret (v := .tuple #[.slice (some ⟨g, 0, none⟩) ls.length cap', .agg #[.int .i64 x1, .int .i64 x2, .int .i64 x3], .agg #[.int .i64 y1, .int .i64 y2, .int .i64 y3]]) (by simp [results, Tryz.results4, go_sem, *]) rfl ⟨g, ls, cap', x1, x2, x3, y1, y2, y3, rfl, ?_, by omega, HIL.out, hle, hxi, hyi, ?_⟩
  · (repeat' (with_reducible first | exact HC.out | refine CellsL.set ?_ ?_))
    all_goals omega
  · (show Acc w _); (repeat' (first | (with_reducible first | assumption | exact Acc.refl _ | refine Acc.drew ?_ | refine Acc.drewN ?_ _ | refine Acc.alloc ?_ _ | refine Acc.setCell ?_ ?_ _) | (refine leB ?_; omega)))
set_option maxRecDepth 100000 in
set_option maxHeartbeats 32000000 in
theorem fnPowers_law (w : World) (hl : Laid w) (s : Option Addr) (len cap : Nat) (h : Code8 w s len cap) :
    Calls Tryz.prog 3 #[.slice s len cap] w (Fine w) := by
  have hm := h.2.1
  have hl' := h.1
  unfold maxLen at hm
  have HL := Lib.hid fun W (k : Acc w W) => hl.acc k
  clear hl
  by_cases hlen : 1048576 < len
  · clear h
    have hlen' : (1048576 : Int) < (len : Int) := by omega
    go_enter Tryz.func3, Tryz.ntmps3
    go_wp2_with fail
    go_ret
    exact ⟨rfl, Below.refl _ _⟩
  have hlen' : ¬ (1048576 : Int) < (len : Int) := by omega
  go_enter Tryz.func3, Tryz.ntmps3
  go_wp2_with fail
  refine (drawPow_any s len cap w h).mono ?_
  rintro e W0 ⟨g, ls, lc, x1, x2, x3, y1, y2, y3, rfl, hc, hwg, hi4, hle, hxi, hyi, hb⟩
  have kaW0 : Acc w W0 := hb
  have HC := Lib.hid fun W (k : Acc W0 W) => hc.keep k
  have HI := Lib.hid hi4
  have HW := Lib.hid kaW0
  clear hb h hc hi4 hwg
  obtain ⟨hx1, hx2, hx3⟩ := hxi
  obtain ⟨hy1, hy2, hy3⟩ := hyi
  obtain ⟨r1, r2, r3, r4, r5, r6, kr, r1', r2', rv'⟩ := gave33_at2 (powM ls (x1, x2, x3) (y1, y2, y3))
  have C1 := Lib.hid r1'
  clear r1' r2'
  have HP := Lib.hid fun a' cap' W (l : Lys W a' ls) (k : Acc w W) => rv' _ _ _ W (implFlPow_any a' ls cap' x1 x2 x3 y1 y2 y3 hx1 hx2 hx3 hy1 hy2 hy3 W l (by omega) (HL.out W k))
  have HS := Lib.hid fun a' cap' W (l : Lys W a' ls) => rv' _ _ _ W (specFlPow_any a' ls cap' x1 x2 x3 y1 y2 y3 W l (by omega))
  clear hx1 hx2 hx3 hy1 hy2 hy3 rv'
  obtain ⟨rf, hrf⟩ : ∃ k, (ls.all fun l => l.1.2.1 == 0) = k := ⟨_, rfl⟩
  have RF := Lib.hid hrf
  have HRF := Lib.hid fun a' cap' W (l : Lys W a' ls) => realFilm_any a' ls cap' W l (by omega)
  rw [hrf] at HRF
  clear hrf
  have qe1 := eqSelf2 r1 r2 r3
  have qe2 := eqSelf2 r4 r5 r6
  have kaW0' : Acc W0 W0 := Acc.refl _
  go_wp2_with fail
  refine (HP.out _ _ _ ((HC.out _ (show Acc W0 _ by repeat' (first | (with_reducible first | assumption | exact Acc.refl _ | refine Acc.drew ?_ | refine Acc.drewN ?_ _ | refine Acc.alloc ?_ _ | refine Acc.setCell ?_ ?_ _) | (refine leB ?_; omega)))).lys HI.out) (Acc.call HW.out (show Acc W0 _ by repeat' (first | (with_reducible first | assumption | exact Acc.refl _ | refine Acc.drew ?_ | refine Acc.drewN ?_ _ | refine Acc.alloc ?_ _ | refine Acc.setCell ?_ ?_ _) | (refine leB ?_; omega))))).mono ?_
  rintro e W1 ⟨rfl, hb⟩
  obtain ⟨Ba, Bb⟩ : Blk W1 (W0.heap.size) [.int .i64 x1, .int .i64 x2, .int .i64 x3] ∧ Blk W1 (W0.heap.size + 1) [.int .i64 y1, .int .i64 y2, .int .i64 y3] := by
    refine ⟨?_, ?_⟩ <;> refine Blk.keep hb ?_ <;> (repeat' (first | (with_reducible first | assumption | refine Blk.drew ?_ | refine Blk.drewN ?_ _ | apply Blk.set | (refine Blk.new ?_; focus (first | rfl | (simp; done))) | refine Blk.alloc ?_ _ | refine Blk.other ?_ ?_ _) | exact eqL rfl | (refine neB ?_; omega)))
  have ca := Ba.cell
  have fa := Ba.free
  have la_W1 := Ba.lt
  have cb := Bb.cell
  have fb := Bb.free
  have lb_W1 := Bb.lt
  have kaW1 : Acc W0 W1 := by
    refine Acc.call ?_ hb
    (repeat' (first | (with_reducible first | assumption | exact Acc.refl _ | refine Acc.drew ?_ | refine Acc.drewN ?_ _ | refine Acc.alloc ?_ _ | refine Acc.setCell ?_ ?_ _) | (refine leB ?_; omega)))
  clear hb
  go_wp2_with fail
  refine (HS.out _ _ _ ((HC.out _ (show Acc W0 _ by repeat' (first | (with_reducible first | assumption | exact Acc.refl _ | refine Acc.drew ?_ | refine Acc.drewN ?_ _ | refine Acc.alloc ?_ _ | refine Acc.setCell ?_ ?_ _) | (refine leB ?_; omega)))).lys HI.out)).mono ?_
  rintro e W2 ⟨rfl, hb⟩
  obtain ⟨Ba, Bb, Bo, Bp⟩ : Blk W2 (W0.heap.size) [.int .i64 x1, .int .i64 x2, .int .i64 x3] ∧ Blk W2 (W0.heap.size + 1) [.int .i64 y1, .int .i64 y2, .int .i64 y3] ∧ Blk W2 (W1.heap.size) [.int .i64 r1, .int .i64 r2, .int .i64 r3] ∧ Blk W2 (W1.heap.size + 1) [.int .i64 r4, .int .i64 r5, .int .i64 r6] := by
    refine ⟨?_, ?_, ?_, ?_⟩ <;> refine Blk.keep hb ?_ <;> (repeat' (first | (with_reducible first | assumption | refine Blk.drew ?_ | refine Blk.drewN ?_ _ | apply Blk.set | (refine Blk.new ?_; focus (first | rfl | (simp; done))) | refine Blk.alloc ?_ _ | refine Blk.other ?_ ?_ _) | exact eqL rfl | (refine neB ?_; omega)))
  have ca := Ba.cell
  have fa := Ba.free
  have la_W2 := Ba.lt
  have cb := Bb.cell
  have fb := Bb.free
  have lb_W2 := Bb.lt
  have co := Bo.cell
  have fo := Bo.free
  have lo_W2 := Bo.lt
  have cp := Bp.cell
  have fp := Bp.free
  have lp_W2 := Bp.lt
  have kaW2 : Acc W0 W2 := by
    refine Acc.call ?_ hb
    (repeat' (first | (with_reducible first | assumption | exact Acc.refl _ | refine Acc.drew ?_ | refine Acc.drewN ?_ _ | refine Acc.alloc ?_ _ | refine Acc.setCell ?_ ?_ _) | (refine leB ?_; omega)))
  clear hb
  cases kr with
  | false =>
    go_wp2_with fail
    go_ret
    refine ⟨rfl, ?_⟩
    show Acc w _
    refine Acc.call HW.out (show Acc W0 _ from ?_)
    (repeat' (first | (with_reducible first | assumption | exact Acc.refl _ | refine Acc.drew ?_ | refine Acc.drewN ?_ _ | refine Acc.alloc ?_ _ | refine Acc.setCell ?_ ?_ _) | (refine leB ?_; omega)))
  | true =>
    have C2 := Lib.hid (C1.out rfl)
    have HV := Lib.hid (powM_ok C2.out)
    obtain ⟨⟨n1, n2, n3⟩, hv⟩ : ∃ o, partsR (sumF 1 r1 r2 r3 r4 r5 r6) = o := ⟨_, rfl⟩
    obtain ⟨kn, hk⟩ : ∃ k, okR (sumF 1 r1 r2 r3 r4 r5 r6) = k := ⟨_, rfl⟩
    have Cn := Lib.hid hv
    have Dn := Lib.hid hk
    clear hv hk
    go_wp2_with fail
    refine (gave_any Cn.out Dn.out (implAdd_any r1 r2 r3 r4 r5 r6 (okF_i64 HV.out.1).1 (okF_i64 HV.out.1).2.1 (okF_i64 HV.out.1).2.2 (okF_i64 HV.out.2).1 (okF_i64 HV.out.2).2.1 (okF_i64 HV.out.2).2.2 _ (HL.out _ (Acc.call HW.out (show Acc W0 _ by repeat' (first | (with_reducible first | assumption | exact Acc.refl _ | refine Acc.drew ?_ | refine Acc.drewN ?_ _ | refine Acc.alloc ?_ _ | refine Acc.setCell ?_ ?_ _) | (refine leB ?_; omega))))))).mono ?_
    rintro e W3 ⟨rfl, hb⟩
    obtain ⟨Ba, Bb, Bo, Bp, Bu, Bv⟩ : Blk W3 (W0.heap.size) [.int .i64 x1, .int .i64 x2, .int .i64 x3] ∧ Blk W3 (W0.heap.size + 1) [.int .i64 y1, .int .i64 y2, .int .i64 y3] ∧ Blk W3 (W1.heap.size) [.int .i64 r1, .int .i64 r2, .int .i64 r3] ∧ Blk W3 (W1.heap.size + 1) [.int .i64 r4, .int .i64 r5, .int .i64 r6] ∧ Blk W3 (W2.heap.size) [.int .i64 r1, .int .i64 r2, .int .i64 r3] ∧ Blk W3 (W2.heap.size + 1) [.int .i64 r4, .int .i64 r5, .int .i64 r6] := by
      refine ⟨?_, ?_, ?_, ?_, ?_, ?_⟩ <;> refine Blk.keep hb ?_ <;> (repeat' (first | (with_reducible first | assumption | refine Blk.drew ?_ | refine Blk.drewN ?_ _ | apply Blk.set | (refine Blk.new ?_; focus (first | rfl | (simp; done))) | refine Blk.alloc ?_ _ | refine Blk.other ?_ ?_ _) | exact eqL rfl | (refine neB ?_; omega)))
    have ca := Ba.cell
    have fa := Ba.free
    have la_W3 := Ba.lt
    have cb := Bb.cell
    have fb := Bb.free
    have lb_W3 := Bb.lt
    have co := Bo.cell
    have fo := Bo.free
    have lo_W3 := Bo.lt
    have cp := Bp.cell
    have fp := Bp.free
    have lp_W3 := Bp.lt
    have cu := Bu.cell
    have fu := Bu.free
    have lu_W3 := Bu.lt
    have cv := Bv.cell
    have fv := Bv.free
    have lv_W3 := Bv.lt
    have kaW3 : Acc W0 W3 := by
      refine Acc.call ?_ hb
      (repeat' (first | (with_reducible first | assumption | exact Acc.refl _ | refine Acc.drew ?_ | refine Acc.drewN ?_ _ | refine Acc.alloc ?_ _ | refine Acc.setCell ?_ ?_ _) | (refine leB ?_; omega)))
    clear hb
    go_wp2_with fail
    refine (HRF.out _ _ _ ((HC.out _ (show Acc W0 _ by repeat' (first | (with_reducible first | assumption | exact Acc.refl _ | refine Acc.drew ?_ | refine Acc.drewN ?_ _ | refine Acc.alloc ?_ _ | refine Acc.setCell ?_ ?_ _) | (refine leB ?_; omega)))).lys HI.out)).mono ?_
    rintro e W4 ⟨rfl, hb⟩
    obtain ⟨Ba, Bb, Bo, Bp, Bu, Bv, Bn⟩ : Blk W4 (W0.heap.size) [.int .i64 x1, .int .i64 x2, .int .i64 x3] ∧ Blk W4 (W0.heap.size + 1) [.int .i64 y1, .int .i64 y2, .int .i64 y3] ∧ Blk W4 (W1.heap.size) [.int .i64 r1, .int .i64 r2, .int .i64 r3] ∧ Blk W4 (W1.heap.size + 1) [.int .i64 r4, .int .i64 r5, .int .i64 r6] ∧ Blk W4 (W2.heap.size) [.int .i64 r1, .int .i64 r2, .int .i64 r3] ∧ Blk W4 (W2.heap.size + 1) [.int .i64 r4, .int .i64 r5, .int .i64 r6] ∧ Blk W4 (W3.heap.size) [.int .i64 n1, .int .i64 n2, .int .i64 n3] := by
      refine ⟨?_, ?_, ?_, ?_, ?_, ?_, ?_⟩ <;> refine Blk.keep hb ?_ <;> (repeat' (first | (with_reducible first | assumption | refine Blk.drew ?_ | refine Blk.drewN ?_ _ | apply Blk.set | (refine Blk.new ?_; focus (first | rfl | (simp; done))) | refine Blk.alloc ?_ _ | refine Blk.other ?_ ?_ _) | exact eqL rfl | (refine neB ?_; omega)))
    have ca := Ba.cell
    have fa := Ba.free
    have la_W4 := Ba.lt
    have cb := Bb.cell
    have fb := Bb.free
    have lb_W4 := Bb.lt
    have co := Bo.cell
    have fo := Bo.free
    have lo_W4 := Bo.lt
    have cp := Bp.cell
    have fp := Bp.free
    have lp_W4 := Bp.lt
    have cu := Bu.cell
    have fu := Bu.free
    have lu_W4 := Bu.lt
    have cv := Bv.cell
    have fv := Bv.free
    have lv_W4 := Bv.lt
    have cn := Bn.cell
    have fn := Bn.free
    have ln_W4 := Bn.lt
    have kaW4 : Acc W0 W4 := by
      refine Acc.call ?_ hb
      (repeat' (first | (with_reducible first | assumption | exact Acc.refl _ | refine Acc.drew ?_ | refine Acc.drewN ?_ _ | refine Acc.alloc ?_ _ | refine Acc.setCell ?_ ?_ _) | (refine leB ?_; omega)))
    clear hb
    cases kn with
    | false =>
      rcases bb_of x2 0 with z1 | z1
      ·
        rcases bb_of y2 0 with z2 | z2
        ·
          cases rf with
          | false =>
            go_wp2_with fail
            go_ret
            refine ⟨rfl, ?_⟩
            show Acc w _
            refine Acc.call HW.out (show Acc W0 _ from ?_)
            (repeat' (first | (with_reducible first | assumption | exact Acc.refl _ | refine Acc.drew ?_ | refine Acc.drewN ?_ _ | refine Acc.alloc ?_ _ | refine Acc.setCell ?_ ?_ _) | (refine leB ?_; omega)))
          | true =>
            go_wp2_with fail
            go_ret
            refine ⟨rfl, ?_⟩
            show Acc w _
            refine Acc.call HW.out (show Acc W0 _ from ?_)
            (repeat' (first | (with_reducible first | assumption | exact Acc.refl _ | refine Acc.drew ?_ | refine Acc.drewN ?_ _ | refine Acc.alloc ?_ _ | refine Acc.setCell ?_ ?_ _) | (refine leB ?_; omega)))
        ·
          cases rf with
          | false =>
            go_wp2_with fail
            go_ret
            refine ⟨rfl, ?_⟩
            show Acc w _
            refine Acc.call HW.out (show Acc W0 _ from ?_)
            (repeat' (first | (with_reducible first | assumption | exact Acc.refl _ | refine Acc.drew ?_ | refine Acc.drewN ?_ _ | refine Acc.alloc ?_ _ | refine Acc.setCell ?_ ?_ _) | (refine leB ?_; omega)))
          | true =>
            go_wp2_with fail
            go_ret
            refine ⟨rfl, ?_⟩
            show Acc w _
            refine Acc.call HW.out (show Acc W0 _ from ?_)
            (repeat' (first | (with_reducible first | assumption | exact Acc.refl _ | refine Acc.drew ?_ | refine Acc.drewN ?_ _ | refine Acc.alloc ?_ _ | refine Acc.setCell ?_ ?_ _) | (refine leB ?_; omega)))
      ·
        rcases bb_of y2 0 with z2 | z2
        ·
          cases rf with
          | false =>
            go_wp2_with fail
            go_ret
            refine ⟨rfl, ?_⟩
            show Acc w _
            refine Acc.call HW.out (show Acc W0 _ from ?_)
            (repeat' (first | (with_reducible first | assumption | exact Acc.refl _ | refine Acc.drew ?_ | refine Acc.drewN ?_ _ | refine Acc.alloc ?_ _ | refine Acc.setCell ?_ ?_ _) | (refine leB ?_; omega)))
          | true =>
            go_wp2_with fail
            go_ret
            refine ⟨rfl, ?_⟩
            show Acc w _
            refine Acc.call HW.out (show Acc W0 _ from ?_)
            (repeat' (first | (with_reducible first | assumption | exact Acc.refl _ | refine Acc.drew ?_ | refine Acc.drewN ?_ _ | refine Acc.alloc ?_ _ | refine Acc.setCell ?_ ?_ _) | (refine leB ?_; omega)))
        ·
          cases rf with
          | false =>
            go_wp2_with fail
            go_ret
            refine ⟨rfl, ?_⟩
            show Acc w _
            refine Acc.call HW.out (show Acc W0 _ from ?_)
            (repeat' (first | (with_reducible first | assumption | exact Acc.refl _ | refine Acc.drew ?_ | refine Acc.drewN ?_ _ | refine Acc.alloc ?_ _ | refine Acc.setCell ?_ ?_ _) | (refine leB ?_; omega)))
          | true =>
            go_wp2_with fail
            go_ret
            refine ⟨rfl, ?_⟩
            show Acc w _
            refine Acc.call HW.out (show Acc W0 _ from ?_)
            (repeat' (first | (with_reducible first | assumption | exact Acc.refl _ | refine Acc.drew ?_ | refine Acc.drewN ?_ _ | refine Acc.alloc ?_ _ | refine Acc.setCell ?_ ?_ _) | (refine leB ?_; omega)))
    | true =>
      rcases bb_of x2 0 with z1 | z1
      ·
        rcases bb_of y2 0 with z2 | z2
        ·
          cases rf with
          | false =>
            go_wp2_with fail
            go_ret
            refine ⟨rfl, ?_⟩
            show Acc w _
            refine Acc.call HW.out (show Acc W0 _ from ?_)
            (repeat' (first | (with_reducible first | assumption | exact Acc.refl _ | refine Acc.drew ?_ | refine Acc.drewN ?_ _ | refine Acc.alloc ?_ _ | refine Acc.setCell ?_ ?_ _) | (refine leB ?_; omega)))
          | true =>
            obtain rfl : x2 = 0 := by simpa using z1
            obtain rfl : y2 = 0 := by simpa using z2
            have hz := powM_clear (z := (n1, n2, n3)) (fun l hl => by have := List.all_eq_true.1 RF.out l hl; simpa using this) C2.out (show sT (r1, r2, r3) (r4, r5, r6) = some (n1, n2, n3) from some_of Cn.out Dn.out)
            obtain ⟨rfl, rfl, rfl⟩ : n1 = 1 ∧ n2 = 0 ∧ n3 = 1 := by simpa using hz
            clear hz
            have qe3 := eqSelf2 1 0 1
            go_wp2_with fail
            go_ret
            refine ⟨rfl, ?_⟩
            show Acc w _
            refine Acc.call HW.out (show Acc W0 _ from ?_)
            (repeat' (first | (with_reducible first | assumption | exact Acc.refl _ | refine Acc.drew ?_ | refine Acc.drewN ?_ _ | refine Acc.alloc ?_ _ | refine Acc.setCell ?_ ?_ _) | (refine leB ?_; omega)))
        ·
          cases rf with
          | false =>
            go_wp2_with fail
            go_ret
            refine ⟨rfl, ?_⟩
            show Acc w _
            refine Acc.call HW.out (show Acc W0 _ from ?_)
            (repeat' (first | (with_reducible first | assumption | exact Acc.refl _ | refine Acc.drew ?_ | refine Acc.drewN ?_ _ | refine Acc.alloc ?_ _ | refine Acc.setCell ?_ ?_ _) | (refine leB ?_; omega)))
          | true =>
            go_wp2_with fail
            go_ret
            refine ⟨rfl, ?_⟩
            show Acc w _
            refine Acc.call HW.out (show Acc W0 _ from ?_)
            (repeat' (first | (with_reducible first | assumption | exact Acc.refl _ | refine Acc.drew ?_ | refine Acc.drewN ?_ _ | refine Acc.alloc ?_ _ | refine Acc.setCell ?_ ?_ _) | (refine leB ?_; omega)))
      ·
        rcases bb_of y2 0 with z2 | z2
        ·
          cases rf with
          | false =>
            go_wp2_with fail
            go_ret
            refine ⟨rfl, ?_⟩
            show Acc w _
            refine Acc.call HW.out (show Acc W0 _ from ?_)
            (repeat' (first | (with_reducible first | assumption | exact Acc.refl _ | refine Acc.drew ?_ | refine Acc.drewN ?_ _ | refine Acc.alloc ?_ _ | refine Acc.setCell ?_ ?_ _) | (refine leB ?_; omega)))
          | true =>
            go_wp2_with fail
            go_ret
            refine ⟨rfl, ?_⟩
            show Acc w _
            refine Acc.call HW.out (show Acc W0 _ from ?_)
            (repeat' (first | (with_reducible first | assumption | exact Acc.refl _ | refine Acc.drew ?_ | refine Acc.drewN ?_ _ | refine Acc.alloc ?_ _ | refine Acc.setCell ?_ ?_ _) | (refine leB ?_; omega)))
        ·
          cases rf with
          | false =>
            go_wp2_with fail
            go_ret
            refine ⟨rfl, ?_⟩
            show Acc w _
            refine Acc.call HW.out (show Acc W0 _ from ?_)
            (repeat' (first | (with_reducible first | assumption | exact Acc.refl _ | refine Acc.drew ?_ | refine Acc.drewN ?_ _ | refine Acc.alloc ?_ _ | refine Acc.setCell ?_ ?_ _) | (refine leB ?_; omega)))
          | true =>
            go_wp2_with fail
            go_ret
            refine ⟨rfl, ?_⟩
            show Acc w _
            refine Acc.call HW.out (show Acc W0 _ from ?_)
            (repeat' (first | (with_reducible first | assumption | exact Acc.refl _ | refine Acc.drew ?_ | refine Acc.drewN ?_ _ | refine Acc.alloc ?_ _ | refine Acc.setCell ?_ ?_ _) | (refine leB ?_; omega)))
end Go.Proofs.YtpgklllgmfaekaaGreatDoor
