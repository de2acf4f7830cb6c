/-
  The law FnFilmMat.
-/
import Derived.Test.YtpgklllgmfaekaaDoorDrawFilm2
import Derived.Test.YtpgklllgmfaekaaDoorFlmMath3
import Derived.Test.YtpgklllgmfaekaaDoorImplF4
import Derived.Test.YtpgklllgmfaekaaDoorSpecF2
import Derived.Test.YtpgklllgmfaekaaDoorImplM3
import Derived.Test.YtpgklllgmfaekaaDoorBLet
import Derived.Test.YtpgklllgmfaekaaDoorEqVec
import Derived.Laws.AppendOwn
namespace Go.Proofs.YtpgklllgmfaekaaDoor
open Go.ChangeShapes Go.WideShapes Go.ChangeAt Go.RowKit
set_option linter.unusedVariables false

set_option linter.unusedSimpArgs false
theorem flmM_okr {ls : List L4} {A : F4} (h : flmM ls = some A) : okM A = true := by
  unfold flmM at h
  split at h
  · exact mulsM_okr (by decide) h
  · cases h
/-- A drawn film. -/
def DrewF1 (w : World) (e : Ending) (w' : World) : Prop :=
  ∃ (g : Nat) (ls : List L4) (cap : Nat), e = .returned (.slice (some ⟨g, 0, none⟩) ls.length cap) ∧ CellsL w' g ls ∧ (∀ l ∈ ls, i64L l) ∧ ls.length ≤ 4 ∧ Below w.heap.size w w'
set_option maxHeartbeats 8000000 in
theorem drawFlMat_any (a : Option Addr) (len cap : Nat) (w : World) (h : Code8 w a len cap) :
    Calls Tryd.prog 4 #[.slice a len cap] w (DrewF1 w) := by
  have H0 := Lib.hid h
  clear h
  go_enter Tryd.func4, Tryd.ntmps4
  go_wp2_with fail
  refine (open_any a len cap _ H0.out).mono ?_
  rintro e W1 ⟨b, rfl, hb1, bel, hr⟩
  go_wp2_with fail
  refine (film_any b 0 _ hr (by omega)).mono ?_
  rintro e W2 ⟨v, ls, q, rfl, hnn, hown, hi4, hlen, ho, hq, hr2⟩
  obtain ⟨g, cap', rfl, hBg⟩ := own_some hown hnn
  have HC := Lib.hid (own_cells4 hown)
  have HI4 := Lib.hid hi4
  have ka : Below w.heap.size w W2 := Below.trans bel (ho.below bel.size hb1)
  clear hown hi4 hr hr2 ho bel hnn
  go_wp2_with fail
  go_ret
  exact ⟨g, ls, cap', rfl, HC.out, HI4.out, hlen, ka⟩
theorem eqSelf2 (a b c : Int) (w : World) : (Op.equalIn 10000 26 (.agg #[.int .i64 a, .int .i64 b, .int .i64 c]) (.agg #[.int .i64 a, .int .i64 b, .int .i64 c])).run Tryd.prog w = .ok true w := (eqFr 9998 a b c a b c w).trans (by simp)
set_option maxRecDepth 100000 in
set_option maxHeartbeats 32000000 in
theorem fnFilmMat_law (w : World) (hl : Laid w) (s : Option Addr) (len cap : Nat) (h : Code8 w s len cap) :
    Calls Tryd.prog 3 #[.slice s len cap] w (Fine w) := by
  have hm := h.2.1
  have hl' := h.1
  unfold maxLen at hm
  have HL := Lib.hid fun W (k : Acc w W) => hl.acc k
  clear hl
  by_cases hlen : 1048576 < len
  · clear h
    have hlen' : (1048576 : Int) < (len : Int) := by omega
    go_enter Tryd.func3, Tryd.ntmps3
    go_wp2_with fail
    go_ret
    exact ⟨rfl, Below.refl _ _⟩
  have hlen' : ¬ (1048576 : Int) < (len : Int) := by omega
  go_enter Tryd.func3, Tryd.ntmps3
  go_wp2_with fail
  refine (drawFlMat_any s len cap w h).mono ?_
  rintro e W0 ⟨g, ls, lc, rfl, hc, hi4, hle, hb⟩
  have kaW0 : Acc w W0 := hb
  have HC := Lib.hid fun W (k : Acc W0 W) => hc.keep k
  have HI := Lib.hid hi4
  have HW := Lib.hid kaW0
  clear hb h hc hi4
  obtain ⟨m1, m2, m3, m4, m5, m6, m7, m8, m9, m10, m11, m12, kr, r1', r2', rv'⟩ := gave12_at (flmM ls)
  have C1 := Lib.hid r1'
  clear r1' r2'
  have HP := Lib.hid fun a' cap' W (l : Lys W a' ls) (k : Acc w W) => rv' _ _ _ W (implFlMat_any a' ls cap' W l (by omega) (HL.out W k))
  have HS := Lib.hid fun a' cap' W (l : Lys W a' ls) => rv' _ _ _ W (specFlMat_any a' ls cap' W l (by omega))
  clear rv'
  have qe := eqMSame ((m1, m2, m3), (m4, m5, m6), (m7, m8, m9), (m10, m11, m12))
  dsimp only at qe
  have kaW0' : Acc W0 W0 := Acc.refl _
  go_wp2_with fail
  refine (HP.out _ _ _ ((HC.out _ (show Acc W0 _ by repeat' (first | (with_reducible first | assumption | exact Acc.refl _ | refine Acc.drew ?_ | refine Acc.drewN ?_ _ | refine Acc.alloc ?_ _ | refine Acc.setCell ?_ ?_ _) | (refine leB ?_; omega)))).lys HI.out) (Acc.call HW.out (show Acc W0 _ by repeat' (first | (with_reducible first | assumption | exact Acc.refl _ | refine Acc.drew ?_ | refine Acc.drewN ?_ _ | refine Acc.alloc ?_ _ | refine Acc.setCell ?_ ?_ _) | (refine leB ?_; omega))))).mono ?_
  rintro e W1 ⟨rfl, hb⟩
  have kaW1 : Acc W0 W1 := by
    refine Acc.call ?_ hb
    (repeat' (first | (with_reducible first | assumption | exact Acc.refl _ | refine Acc.drew ?_ | refine Acc.drewN ?_ _ | refine Acc.alloc ?_ _ | refine Acc.setCell ?_ ?_ _) | (refine leB ?_; omega)))
  clear hb
  go_wp2_with fail
  refine (HS.out _ _ _ ((HC.out _ (show Acc W0 _ by repeat' (first | (with_reducible first | assumption | exact Acc.refl _ | refine Acc.drew ?_ | refine Acc.drewN ?_ _ | refine Acc.alloc ?_ _ | refine Acc.setCell ?_ ?_ _) | (refine leB ?_; omega)))).lys HI.out)).mono ?_
  rintro e W2 ⟨rfl, hb⟩
  have Bo : Blk W2 (W1.heap.size) [.int .i64 m1, .int .i64 m2, .int .i64 m3, .int .i64 m4, .int .i64 m5, .int .i64 m6, .int .i64 m7, .int .i64 m8, .int .i64 m9, .int .i64 m10, .int .i64 m11, .int .i64 m12] := Blk.keep hb (by repeat' (first | (with_reducible first | assumption | refine Blk.drew ?_ | refine Blk.drewN ?_ _ | apply Blk.set | (refine Blk.new ?_; focus (first | rfl | (simp; done))) | refine Blk.alloc ?_ _ | refine Blk.other ?_ ?_ _) | exact eqL rfl | (refine neB ?_; omega)))
  have co := Bo.cell
  have fo := Bo.free
  have lo_W2 := Bo.lt
  have kaW2 : Acc W0 W2 := by
    refine Acc.call ?_ hb
    (repeat' (first | (with_reducible first | assumption | exact Acc.refl _ | refine Acc.drew ?_ | refine Acc.drewN ?_ _ | refine Acc.alloc ?_ _ | refine Acc.setCell ?_ ?_ _) | (refine leB ?_; omega)))
  clear hb
  cases kr with
  | false =>
    go_wp2_with fail
    go_ret
    refine ⟨rfl, ?_⟩
    show Acc w _
    refine Acc.call HW.out (show Acc W0 _ from ?_)
    (repeat' (first | (with_reducible first | assumption | exact Acc.refl _ | refine Acc.drew ?_ | refine Acc.drewN ?_ _ | refine Acc.alloc ?_ _ | refine Acc.setCell ?_ ?_ _) | (refine leB ?_; omega)))
  | true =>
    have C2 := Lib.hid (C1.out rfl)
    obtain ⟨⟨n1, n2, n3⟩, hv⟩ : ∃ o, partsR (detM ((m1, m2, m3), (m4, m5, m6), (m7, m8, m9), (m10, m11, m12))) = o := ⟨_, rfl⟩
    obtain ⟨kn, hk⟩ : ∃ k, okR (detM ((m1, m2, m3), (m4, m5, m6), (m7, m8, m9), (m10, m11, m12))) = k := ⟨_, rfl⟩
    have Cn := Lib.hid hv
    have Dn := Lib.hid hk
    clear hv hk
    go_wp2_with fail
    refine (gave_any Cn.out Dn.out (implMDet_any m1 m2 m3 m4 m5 m6 m7 m8 m9 m10 m11 m12 (i64M_of (flmM_okr C2.out)).1 (i64M_of (flmM_okr C2.out)).2.1 (i64M_of (flmM_okr C2.out)).2.2.1 (i64M_of (flmM_okr C2.out)).2.2.2.1 (i64M_of (flmM_okr C2.out)).2.2.2.2.1 (i64M_of (flmM_okr C2.out)).2.2.2.2.2.1 (i64M_of (flmM_okr C2.out)).2.2.2.2.2.2.1 (i64M_of (flmM_okr C2.out)).2.2.2.2.2.2.2.1 (i64M_of (flmM_okr C2.out)).2.2.2.2.2.2.2.2.1 (i64M_of (flmM_okr C2.out)).2.2.2.2.2.2.2.2.2.1 (i64M_of (flmM_okr C2.out)).2.2.2.2.2.2.2.2.2.2.1 (i64M_of (flmM_okr C2.out)).2.2.2.2.2.2.2.2.2.2.2 _ (HL.out _ (Acc.call HW.out (show Acc W0 _ by repeat' (first | (with_reducible first | assumption | exact Acc.refl _ | refine Acc.drew ?_ | refine Acc.drewN ?_ _ | refine Acc.alloc ?_ _ | refine Acc.setCell ?_ ?_ _) | (refine leB ?_; omega))))))).mono ?_
    rintro e W3 ⟨rfl, hb⟩
    obtain ⟨Bo, Bu⟩ : Blk W3 (W1.heap.size) [.int .i64 m1, .int .i64 m2, .int .i64 m3, .int .i64 m4, .int .i64 m5, .int .i64 m6, .int .i64 m7, .int .i64 m8, .int .i64 m9, .int .i64 m10, .int .i64 m11, .int .i64 m12] ∧ Blk W3 (W2.heap.size) [.int .i64 m1, .int .i64 m2, .int .i64 m3, .int .i64 m4, .int .i64 m5, .int .i64 m6, .int .i64 m7, .int .i64 m8, .int .i64 m9, .int .i64 m10, .int .i64 m11, .int .i64 m12] := by
      refine ⟨?_, ?_⟩ <;> refine Blk.keep hb ?_ <;> (repeat' (first | (with_reducible first | assumption | refine Blk.drew ?_ | refine Blk.drewN ?_ _ | apply Blk.set | (refine Blk.new ?_; focus (first | rfl | (simp; done))) | refine Blk.alloc ?_ _ | refine Blk.other ?_ ?_ _) | exact eqL rfl | (refine neB ?_; omega)))
    have co := Bo.cell
    have fo := Bo.free
    have lo_W3 := Bo.lt
    have cu := Bu.cell
    have fu := Bu.free
    have lu_W3 := Bu.lt
    have kaW3 : Acc W0 W3 := by
      refine Acc.call ?_ hb
      (repeat' (first | (with_reducible first | assumption | exact Acc.refl _ | refine Acc.drew ?_ | refine Acc.drewN ?_ _ | refine Acc.alloc ?_ _ | refine Acc.setCell ?_ ?_ _) | (refine leB ?_; omega)))
    clear hb
    cases kn with
    | false =>
      go_wp2_with fail
      go_ret
      refine ⟨rfl, ?_⟩
      show Acc w _
      refine Acc.call HW.out (show Acc W0 _ from ?_)
      (repeat' (first | (with_reducible first | assumption | exact Acc.refl _ | refine Acc.drew ?_ | refine Acc.drewN ?_ _ | refine Acc.alloc ?_ _ | refine Acc.setCell ?_ ?_ _) | (refine leB ?_; omega)))
    | true =>
      have hz := flmM_det (d := (n1, n2, n3)) C2.out (some_of Cn.out Dn.out)
      obtain ⟨rfl, rfl, rfl⟩ : n1 = 1 ∧ n2 = 0 ∧ n3 = 1 := by simpa using hz
      clear hz
      have qe3 := eqSelf2 1 0 1
      go_wp2_with fail
      go_ret
      refine ⟨rfl, ?_⟩
      show Acc w _
      refine Acc.call HW.out (show Acc W0 _ from ?_)
      (repeat' (first | (with_reducible first | assumption | exact Acc.refl _ | refine Acc.drew ?_ | refine Acc.drewN ?_ _ | refine Acc.alloc ?_ _ | refine Acc.setCell ?_ ?_ _) | (refine leB ?_; omega)))
end Go.Proofs.YtpgklllgmfaekaaDoor
