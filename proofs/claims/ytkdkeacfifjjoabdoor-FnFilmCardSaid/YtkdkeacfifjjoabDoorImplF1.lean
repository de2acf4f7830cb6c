/-
  The program's films: indexes, layers and films asked.
-/
import Derived.Test.YtkdkeacfifjjoabDoorSpecF1
import Derived.Test.YtkdkeacfifjjoabDoorBImplF
import Derived.Test.YtkdkeacfifjjoabDoorZero
namespace Go.Proofs.YtkdkeacfifjjoabDoor
open Go.ChangeShapes Go.WideShapes Go.ChangeAt Go.RowKit
set_option linter.unusedVariables false

set_option linter.unusedSimpArgs false
theorem okX_no1 {n1 n2 n3 : Int} (h : okF n1 n2 n3 = false) : okX (n1, n2, n3) = false := by
  unfold okX okT
  rw [show okF (n1, n2, n3).1 (n1, n2, n3).2.1 (n1, n2, n3).2.2 = false from h, Bool.false_and]
theorem okX_no2 {n1 n2 n3 : Int} (h1 : n1 = 0) (h2 : n2 = 0) : okX (n1, n2, n3) = false := by
  unfold okX
  simp [h1, h2]
theorem zero_at {n1 n2 n3 : Int} (h : okF n1 n2 n3 = true) (h0 : n1 = 0 ∧ n2 = 0) : (n1 == 0 && n2 == 0 && n3 == 1) = true := by
  obtain ⟨rfl, rfl⟩ := h0
  have : n3 = 1 := by
    have g := okF_gcd h
    have b := (okF_bd h).2.2.1
    simp [gcd3] at g
    omega
  simp [this]
theorem zero_no {n1 n2 n3 : Int} (h0 : ¬ (n1 = 0 ∧ n2 = 0)) : (n1 == 0 && n2 == 0 && n3 == 1) = false := by
  rw [Bool.and_eq_false_iff, Bool.and_eq_false_iff, beq_eq_false_iff_ne, beq_eq_false_iff_ne]
  omega
set_option maxRecDepth 100000 in
set_option maxHeartbeats 4000000 in
theorem checkIndex_any (n1 n2 n3 : Int) (hn1 : i64B n1) (hn2 : i64B n2) (hn3 : i64B n3) (w : World) : Calls Tryd.prog 34 #[.agg #[.int .i64 n1, .int .i64 n2, .int .i64 n3]] w (Checked (okX (n1, n2, n3)) w) := by
  obtain ⟨v, hv⟩ : ∃ v, okF n1 n2 n3 = v := ⟨_, rfl⟩
  have T := Lib.hid fun w => check_any n1 n2 n3 w hn1 hn2 hn3
  rw [hv] at T
  have V := Lib.hid hv
  clear hn1 hn2 hn3 hv
  cases v with
  | false =>
    rw [okX_no1 V.out]
    go_enter Tryd.func34, Tryd.ntmps34
    go_wp2_with fail
    refine (T.out _).mono ?_
    rintro e W1 ⟨-, h2, hb⟩
    obtain ⟨s, rfl⟩ := h2 rfl
    clear h2
    have Ba : Blk W1 (w.heap.size) [.int .i64 n1, .int .i64 n2, .int .i64 n3] := Blk.keep hb (by repeat' (first | (with_reducible first | assumption | refine Blk.drew ?_ | refine Blk.drewN ?_ _ | apply Blk.set | (refine Blk.new ?_; focus (first | rfl | (simp; done))) | refine Blk.alloc ?_ _ | refine Blk.other ?_ ?_ _) | exact eqL rfl | (refine neB ?_; omega)))
    have ca := Ba.cell
    have fa := Ba.free
    have la_W1 := Ba.lt
    have kaW1 : Acc w W1 := by
      refine Acc.call ?_ hb
      (repeat' (first | (with_reducible first | assumption | exact Acc.refl _ | refine Acc.drew ?_ | refine Acc.drewN ?_ _ | refine Acc.alloc ?_ _ | refine Acc.setCell ?_ ?_ _) | (refine leB ?_; omega)))
    clear hb
    go_wp2_with fail
    go_ret
    refine ⟨fun h => (by cases h), fun _ => ⟨_, rfl⟩, ?_⟩
    show Acc w _
    (repeat' (first | (with_reducible first | assumption | exact Acc.refl _ | refine Acc.drew ?_ | refine Acc.drewN ?_ _ | refine Acc.alloc ?_ _ | refine Acc.setCell ?_ ?_ _) | (refine leB ?_; omega)))
  | true =>
    by_cases h0 : n1 = 0 ∧ n2 = 0
    ·
      have Z := Lib.hid (zero_at V.out h0)
      rw [okX_no2 h0.1 h0.2]
      clear h0
      go_enter Tryd.func34, Tryd.ntmps34
      go_wp2_with fail
      refine (T.out _).mono ?_
      rintro e W1 ⟨h1, -, hb⟩
      obtain rfl := h1 rfl
      clear h1
      have Ba : Blk W1 (w.heap.size) [.int .i64 n1, .int .i64 n2, .int .i64 n3] := Blk.keep hb (by repeat' (first | (with_reducible first | assumption | refine Blk.drew ?_ | refine Blk.drewN ?_ _ | apply Blk.set | (refine Blk.new ?_; focus (first | rfl | (simp; done))) | refine Blk.alloc ?_ _ | refine Blk.other ?_ ?_ _) | exact eqL rfl | (refine neB ?_; omega)))
      have ca := Ba.cell
      have fa := Ba.free
      have la_W1 := Ba.lt
      have kaW1 : Acc w W1 := by
        refine Acc.call ?_ hb
        (repeat' (first | (with_reducible first | assumption | exact Acc.refl _ | refine Acc.drew ?_ | refine Acc.drewN ?_ _ | refine Acc.alloc ?_ _ | refine Acc.setCell ?_ ?_ _) | (refine leB ?_; omega)))
      clear hb
      go_wp2_with fail
      refine (isZ_of n1 n2 n3 true Z.out _).mono ?_
      rintro e W2 ⟨rfl, hb⟩
      have Ba : Blk W2 (w.heap.size) [.int .i64 n1, .int .i64 n2, .int .i64 n3] := Blk.keep hb (by repeat' (first | (with_reducible first | assumption | refine Blk.drew ?_ | refine Blk.drewN ?_ _ | apply Blk.set | (refine Blk.new ?_; focus (first | rfl | (simp; done))) | refine Blk.alloc ?_ _ | refine Blk.other ?_ ?_ _) | exact eqL rfl | (refine neB ?_; omega)))
      have ca := Ba.cell
      have fa := Ba.free
      have la_W2 := Ba.lt
      have kaW2 : Acc w W2 := by
        refine Acc.call ?_ hb
        (repeat' (first | (with_reducible first | assumption | exact Acc.refl _ | refine Acc.drew ?_ | refine Acc.drewN ?_ _ | refine Acc.alloc ?_ _ | refine Acc.setCell ?_ ?_ _) | (refine leB ?_; omega)))
      clear hb
      go_wp2_with fail
      go_ret
      refine ⟨fun h => (by cases h), fun _ => ⟨_, rfl⟩, ?_⟩
      show Acc w _
      (repeat' (first | (with_reducible first | assumption | exact Acc.refl _ | refine Acc.drew ?_ | refine Acc.drewN ?_ _ | refine Acc.alloc ?_ _ | refine Acc.setCell ?_ ?_ _) | (refine leB ?_; omega)))
    ·
      have Z := Lib.hid (zero_no (n3 := n3) h0)
      rw [okX_mk V.out h0]
      clear h0
      go_enter Tryd.func34, Tryd.ntmps34
      go_wp2_with fail
      refine (T.out _).mono ?_
      rintro e W1 ⟨h1, -, hb⟩
      obtain rfl := h1 rfl
      clear h1
      have Ba : Blk W1 (w.heap.size) [.int .i64 n1, .int .i64 n2, .int .i64 n3] := Blk.keep hb (by repeat' (first | (with_reducible first | assumption | refine Blk.drew ?_ | refine Blk.drewN ?_ _ | apply Blk.set | (refine Blk.new ?_; focus (first | rfl | (simp; done))) | refine Blk.alloc ?_ _ | refine Blk.other ?_ ?_ _) | exact eqL rfl | (refine neB ?_; omega)))
      have ca := Ba.cell
      have fa := Ba.free
      have la_W1 := Ba.lt
      have kaW1 : Acc w W1 := by
        refine Acc.call ?_ hb
        (repeat' (first | (with_reducible first | assumption | exact Acc.refl _ | refine Acc.drew ?_ | refine Acc.drewN ?_ _ | refine Acc.alloc ?_ _ | refine Acc.setCell ?_ ?_ _) | (refine leB ?_; omega)))
      clear hb
      go_wp2_with fail
      refine (isZ_of n1 n2 n3 false Z.out _).mono ?_
      rintro e W2 ⟨rfl, hb⟩
      have Ba : Blk W2 (w.heap.size) [.int .i64 n1, .int .i64 n2, .int .i64 n3] := Blk.keep hb (by repeat' (first | (with_reducible first | assumption | refine Blk.drew ?_ | refine Blk.drewN ?_ _ | apply Blk.set | (refine Blk.new ?_; focus (first | rfl | (simp; done))) | refine Blk.alloc ?_ _ | refine Blk.other ?_ ?_ _) | exact eqL rfl | (refine neB ?_; omega)))
      have ca := Ba.cell
      have fa := Ba.free
      have la_W2 := Ba.lt
      have kaW2 : Acc w W2 := by
        refine Acc.call ?_ hb
        (repeat' (first | (with_reducible first | assumption | exact Acc.refl _ | refine Acc.drew ?_ | refine Acc.drewN ?_ _ | refine Acc.alloc ?_ _ | refine Acc.setCell ?_ ?_ _) | (refine leB ?_; omega)))
      clear hb
      go_wp2_with fail
      go_ret
      refine ⟨fun _ => rfl, fun h => (by cases h), ?_⟩
      show Acc w _
      (repeat' (first | (with_reducible first | assumption | exact Acc.refl _ | refine Acc.drew ?_ | refine Acc.drewN ?_ _ | refine Acc.alloc ?_ _ | refine Acc.setCell ?_ ?_ _) | (refine leB ?_; omega)))
set_option maxRecDepth 100000 in
set_option maxHeartbeats 4000000 in
theorem layCheck_any (n1 n2 n3 q : Int) (hn1 : i64B n1) (hn2 : i64B n2) (hn3 : i64B n3) (w : World) : Calls Tryd.prog 19 #[.agg #[.int .i64 n1, .int .i64 n2, .int .i64 n3, .int .i64 q]] w (Checked (okL ((n1, n2, n3), q)) w) := by
  by_cases hq : 0 ≤ q ∧ q ≤ 3
  · have e : okL ((n1, n2, n3), q) = okX (n1, n2, n3) := by
      unfold okL
      rw [show inB q 0 3 = true by unfold inB; simp; omega, Bool.and_true]
    rw [e]
    obtain ⟨q0, q3⟩ := hq
    have h1 : ¬ q < 0 := by omega
    have h2 : ¬ 3 < q := by omega
    obtain ⟨o, ho⟩ : ∃ o, okX (n1, n2, n3) = o := ⟨_, rfl⟩
    have T := Lib.hid fun w => checkIndex_any n1 n2 n3 hn1 hn2 hn3 w
    rw [ho] at T ⊢
    clear ho e q0 q3 hn1 hn2 hn3
    go_enter Tryd.func19, Tryd.ntmps19
    go_wp2_with fail
    cases o with
    | false =>
      refine (T.out _).mono ?_
      rintro e W1 ⟨-, h2, hb⟩
      obtain ⟨s, rfl⟩ := h2 rfl
      clear h2
      have Ba : Blk W1 (w.heap.size) [.int .i64 n1, .int .i64 n2, .int .i64 n3, .int .i64 q] := Blk.keep hb (by repeat' (first | (with_reducible first | assumption | refine Blk.drew ?_ | refine Blk.drewN ?_ _ | apply Blk.set | (refine Blk.new ?_; focus (first | rfl | (simp; done))) | refine Blk.alloc ?_ _ | refine Blk.other ?_ ?_ _) | exact eqL rfl | (refine neB ?_; omega)))
      have ca := Ba.cell
      have fa := Ba.free
      have la_W1 := Ba.lt
      have kaW1 : Acc w W1 := by
        refine Acc.call ?_ hb
        (repeat' (first | (with_reducible first | assumption | exact Acc.refl _ | refine Acc.drew ?_ | refine Acc.drewN ?_ _ | refine Acc.alloc ?_ _ | refine Acc.setCell ?_ ?_ _) | (refine leB ?_; omega)))
      clear hb
      go_wp2_with fail
      go_ret
      refine ⟨fun h => (by cases h), fun _ => ⟨_, rfl⟩, ?_⟩
      show Acc w _
      (repeat' (first | (with_reducible first | assumption | exact Acc.refl _ | refine Acc.drew ?_ | refine Acc.drewN ?_ _ | refine Acc.alloc ?_ _ | refine Acc.setCell ?_ ?_ _) | (refine leB ?_; omega)))
    | true =>
      refine (T.out _).mono ?_
      rintro e W1 ⟨h1, -, hb⟩
      obtain rfl := h1 rfl
      clear h1
      have Ba : Blk W1 (w.heap.size) [.int .i64 n1, .int .i64 n2, .int .i64 n3, .int .i64 q] := Blk.keep hb (by repeat' (first | (with_reducible first | assumption | refine Blk.drew ?_ | refine Blk.drewN ?_ _ | apply Blk.set | (refine Blk.new ?_; focus (first | rfl | (simp; done))) | refine Blk.alloc ?_ _ | refine Blk.other ?_ ?_ _) | exact eqL rfl | (refine neB ?_; omega)))
      have ca := Ba.cell
      have fa := Ba.free
      have la_W1 := Ba.lt
      have kaW1 : Acc w W1 := by
        refine Acc.call ?_ hb
        (repeat' (first | (with_reducible first | assumption | exact Acc.refl _ | refine Acc.drew ?_ | refine Acc.drewN ?_ _ | refine Acc.alloc ?_ _ | refine Acc.setCell ?_ ?_ _) | (refine leB ?_; omega)))
      clear hb
      go_wp2_with fail
      go_ret
      refine ⟨fun _ => rfl, fun h => (by cases h), ?_⟩
      show Acc w _
      (repeat' (first | (with_reducible first | assumption | exact Acc.refl _ | refine Acc.drew ?_ | refine Acc.drewN ?_ _ | refine Acc.alloc ?_ _ | refine Acc.setCell ?_ ?_ _) | (refine leB ?_; omega)))
  · have e : okL ((n1, n2, n3), q) = false := okL_no3 (by unfold inB; simp only [decide_eq_false_iff_not]; omega)
    rw [e]
    clear e hn1 hn2 hn3
    by_cases h1 : q < 0
    · clear hq
      go_enter Tryd.func19, Tryd.ntmps19
      go_wp2_with fail
      go_ret
      refine ⟨fun h => (by cases h), fun _ => ⟨_, rfl⟩, ?_⟩
      show Acc w _
      (repeat' (first | (with_reducible first | assumption | exact Acc.refl _ | refine Acc.drew ?_ | refine Acc.drewN ?_ _ | refine Acc.alloc ?_ _ | refine Acc.setCell ?_ ?_ _) | (refine leB ?_; omega)))
    · have h2 : 3 < q := by omega
      clear hq
      go_enter Tryd.func19, Tryd.ntmps19
      go_wp2_with fail
      go_ret
      refine ⟨fun h => (by cases h), fun _ => ⟨_, rfl⟩, ?_⟩
      show Acc w _
      (repeat' (first | (with_reducible first | assumption | exact Acc.refl _ | refine Acc.drew ?_ | refine Acc.drewN ?_ _ | refine Acc.alloc ?_ _ | refine Acc.setCell ?_ ?_ _) | (refine leB ?_; omega)))
set_option maxRecDepth 100000 in
set_option maxHeartbeats 8000000 in
theorem filmCheck_any (a : Option Addr) (ls : List L4) (cap : Nat) (w : World) (h : Lys w a ls) (hn : ls.length ≤ 1048576) : Calls Tryd.prog 11 #[.slice a ls.length cap] w (Checked (okFl ls) w) := by
  have H := Lib.hid h
  clear h
  by_cases h8 : ls.length ≤ 8
  ·
    have HO : RowKit.Hid (okFl ls = ls.all okL) := Lib.hid (by unfold okFl; rw [decide_eq_true h8, Bool.and_true])
    have h9 : ¬ (8 : Int) < ls.length := by omega
    go_enter Tryd.func11, Tryd.ntmps11
    go_wp2_with fail
    go_loopw [13] (fun i wr => ∃ k : Nat, i = .int .i64 k ∧ k ≤ ls.length ∧ Acc w wr ∧ (ls.take k).all okL = true) (fun i _ => ls.length - (intOf i).toNat)
    case atStart => exact ⟨0, rfl, Nat.zero_le _, Acc.refl _, rfl⟩
    case round =>
      obtain ⟨k, rfl, hk, ka, hall⟩ := hrel
      have HA := Lib.hid hall
      clear hall
      by_cases hlt : k < ls.length
      ·
        obtain ⟨c, off, rfl, hc, hi, e0, e1, e2, e3⟩ := H.out.at hlt
        have HT : RowKit.Hid (ls.take (k + 1) = ls.take k ++ [ls[k]]) := Lib.hid (by rw [List.take_add_one, List.getElem?_eq_getElem hlt]; rfl)
        have HD : RowKit.Hid (ls.drop k = ls[k] :: ls.drop (k + 1)) := Lib.hid (List.drop_eq_getElem_cons hlt)
        have HM : RowKit.Hid (ls[k] ∈ ls) := Lib.hid (List.getElem_mem hlt)
        generalize ls[k] = x at hi e0 e1 e2 e3 HT HD HM
        obtain ⟨⟨n1, n2, n3⟩, q⟩ := x
        dsimp only at e0 e1 e2 e3
        have HC := Lib.hid fun (W : World) (ka : Acc w W) => And.intro ((ka.cell (p := ⟨c, off + k * 4, none⟩) hc).trans e0) (And.intro ((ka.cell (p := ⟨c, off + k * 4 + 1, none⟩) hc).trans e1) (And.intro ((ka.cell (p := ⟨c, off + k * 4 + 2, none⟩) hc).trans e2) ((ka.cell (p := ⟨c, off + k * 4 + 3, none⟩) hc).trans e3)))
        have hk1 : k + 1 ≤ ls.length := hlt
        have HI := Lib.hid hi
        clear hi e0 e1 e2 e3 hc
        obtain ⟨e0, e1, e2, e3⟩ := HC.out _ ka
        have hk0 : (0 : Int) ≤ (k : Int) := by omega
        have hk2 : (k : Int) < (ls.length : Int) := by omega
        obtain ⟨o, ho⟩ : ∃ o, okL ((n1, n2, n3), q) = o := ⟨_, rfl⟩
        have T := Lib.hid fun w => layCheck_any n1 n2 n3 q HI.out.1 HI.out.2.1 HI.out.2.2.1 w
        rw [ho] at T
        have O := Lib.hid ho
        clear ho
        go_wp2_with fail
        cases o with
        | false =>
          refine (T.out _).mono ?_
          rintro e W1 ⟨-, h2, hb⟩
          obtain ⟨s, rfl⟩ := h2 rfl
          clear h2
          have kaW1 : Acc w W1 := by
            refine Acc.call ?_ hb
            (repeat' (first | (with_reducible first | assumption | exact Acc.refl _ | refine Acc.drew ?_ | refine Acc.drewN ?_ _ | refine Acc.alloc ?_ _ | refine Acc.setCell ?_ ?_ _) | (refine leB ?_; omega)))
          clear hb
          go_wp2_with fail
          go_ret
          refine ⟨fun h => (by rw [all_no HT.out O.out] at h; cases h), fun _ => ⟨_, rfl⟩, ?_⟩
          show Acc w _
          (repeat' (first | (with_reducible first | assumption | exact Acc.refl _ | refine Acc.drew ?_ | refine Acc.drewN ?_ _ | refine Acc.alloc ?_ _ | refine Acc.setCell ?_ ?_ _) | (refine leB ?_; omega)))
        | true =>
          refine (T.out _).mono ?_
          rintro e W1 ⟨h1, -, hb⟩
          obtain rfl := h1 rfl
          clear h1
          have kaW1 : Acc w W1 := by
            refine Acc.call ?_ hb
            (repeat' (first | (with_reducible first | assumption | exact Acc.refl _ | refine Acc.drew ?_ | refine Acc.drewN ?_ _ | refine Acc.alloc ?_ _ | refine Acc.setCell ?_ ?_ _) | (refine leB ?_; omega)))
          clear hb
          go_wp2_with fail
          go_roundw
          case rel => exact ⟨k + 1, by go_num, hk1, ‹Acc w _›, all_yes HT.out O.out HA.out⟩
          case measure => simp [intOf]; omega
      · obtain rfl : k = ls.length := by omega
        have e9 : okFl ls = true := by rw [HO.out]; have := HA.out; rwa [List.take_length] at this
        have E9 := Lib.hid e9
        clear e9
        go_wp2_with fail
        go_ret
        refine ⟨fun _ => rfl, fun h => (by rw [E9.out] at h; cases h), ?_⟩
        show Acc w _
        (repeat' (first | (with_reducible first | assumption | exact Acc.refl _ | refine Acc.drew ?_ | refine Acc.drewN ?_ _ | refine Acc.alloc ?_ _ | refine Acc.setCell ?_ ?_ _) | (refine leB ?_; omega)))
  · have e9 : okFl ls = false := by unfold okFl; rw [decide_eq_false h8, Bool.and_false]
    rw [e9]
    clear e9
    have h9 : (8 : Int) < ls.length := by omega
    clear h8
    go_enter Tryd.func11, Tryd.ntmps11
    go_wp2_with fail
    go_ret
    refine ⟨fun h => (by cases h), fun _ => ⟨_, rfl⟩, ?_⟩
    show Acc w _
    (repeat' (first | (with_reducible first | assumption | exact Acc.refl _ | refine Acc.drew ?_ | refine Acc.drewN ?_ _ | refine Acc.alloc ?_ _ | refine Acc.setCell ?_ ?_ _) | (refine leB ?_; omega)))
end Go.Proofs.YtkdkeacfifjjoabDoor
