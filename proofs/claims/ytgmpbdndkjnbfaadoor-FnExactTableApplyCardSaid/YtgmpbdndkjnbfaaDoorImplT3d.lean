/-
  The program's sums of products of four: row 3 of a table.
-/
import Derived.Test.YtgmpbdndkjnbfaaDoorImplT1
import Derived.Test.YtgmpbdndkjnbfaaDoorBTabA
import Derived.Test.YtgmpbdndkjnbfaaDoorBVec
import Derived.Test.YtgmpbdndkjnbfaaDoorFlag
import Derived.Deep.RegionHeld3
namespace Go.Proofs.YtgmpbdndkjnbfaaDoor
open Go.ChangeShapes Go.WideShapes Go.ChangeAt Go.RowKit
set_option linter.unusedVariables false

set_option maxRecDepth 100000 in
set_option maxHeartbeats 16000000 in
theorem sumRow_3 (bt bo : Nat) (VT : List Value) (m12a m12b m12c m13a m13b m13c m14a m14b m14c m15a m15b m15c a1 a2 a3 b1 b2 b3 c1 c2 c3 d1 d2 d3 : Int) (hm12a : i64B m12a) (hm12b : i64B m12b) (hm12c : i64B m12c) (hm13a : i64B m13a) (hm13b : i64B m13b) (hm13c : i64B m13c) (hm14a : i64B m14a) (hm14b : i64B m14b) (hm14c : i64B m14c) (hm15a : i64B m15a) (hm15b : i64B m15b) (hm15c : i64B m15c) (ha1 : i64B a1) (ha2 : i64B a2) (ha3 : i64B a3) (hb1 : i64B b1) (hb2 : i64B b2) (hb3 : i64B b3) (hc1 : i64B c1) (hc2 : i64B c2) (hc3 : i64B c3) (hd1 : i64B d1) (hd2 : i64B d2) (hd3 : i64B d3) (e36 : VT[36]? = some (.int .i64 m12a)) (e37 : VT[37]? = some (.int .i64 m12b)) (e38 : VT[38]? = some (.int .i64 m12c)) (e39 : VT[39]? = some (.int .i64 m13a)) (e40 : VT[40]? = some (.int .i64 m13b)) (e41 : VT[41]? = some (.int .i64 m13c)) (e42 : VT[42]? = some (.int .i64 m14a)) (e43 : VT[43]? = some (.int .i64 m14b)) (e44 : VT[44]? = some (.int .i64 m14c)) (e45 : VT[45]? = some (.int .i64 m15a)) (e46 : VT[46]? = some (.int .i64 m15b)) (e47 : VT[47]? = some (.int .i64 m15c)) (w : World) (Bt : Blk w bt VT) (Bo : Blk w bo [.int .i64 a1, .int .i64 a2, .int .i64 a3, .int .i64 b1, .int .i64 b2, .int .i64 b3, .int .i64 c1, .int .i64 c2, .int .i64 c3, .int .i64 d1, .int .i64 d2, .int .i64 d3]) :
    Calls Tryd.prog 43 #[.slice (some ⟨bt, 36, none⟩) 4 4, .slice (some ⟨bo, 0, none⟩) 4 4] w (Erred (rowT ((m12a, m12b, m12c), (m13a, m13b, m13c), (m14a, m14b, m14c), (m15a, m15b, m15c)) ((a1, a2, a3), (b1, b2, b3), (c1, c2, c3), (d1, d2, d3))) w) := by
  obtain ⟨o0, ho⟩ : ∃ o, timesF m12a m12b m12c a1 a2 a3 = o := ⟨_, rfl⟩
  have P0 := Lib.hid ho
  have T0 := Lib.hid fun w => mtimes_any m12a m12b m12c a1 a2 a3 w hm12a hm12b hm12c ha1 ha2 ha3
  rw [ho] at T0
  clear ho
  obtain ⟨o1, ho⟩ : ∃ o, timesF m13a m13b m13c b1 b2 b3 = o := ⟨_, rfl⟩
  have P1 := Lib.hid ho
  have T1 := Lib.hid fun w => mtimes_any m13a m13b m13c b1 b2 b3 w hm13a hm13b hm13c hb1 hb2 hb3
  rw [ho] at T1
  clear ho
  obtain ⟨o2, ho⟩ : ∃ o, timesF m14a m14b m14c c1 c2 c3 = o := ⟨_, rfl⟩
  have P2 := Lib.hid ho
  have T2 := Lib.hid fun w => mtimes_any m14a m14b m14c c1 c2 c3 w hm14a hm14b hm14c hc1 hc2 hc3
  rw [ho] at T2
  clear ho
  obtain ⟨o3, ho⟩ : ∃ o, timesF m15a m15b m15c d1 d2 d3 = o := ⟨_, rfl⟩
  have P3 := Lib.hid ho
  have T3 := Lib.hid fun w => mtimes_any m15a m15b m15c d1 d2 d3 w hm15a hm15b hm15c hd1 hd2 hd3
  rw [ho] at T3
  clear ho
  clear hm12a hm12b hm12c hm13a hm13b hm13c hm14a hm14b hm14c hm15a hm15b hm15c ha1 ha2 ha3 hb1 hb2 hb3 hc1 hc2 hc3 hd1 hd2 hd3
  obtain ⟨o, E⟩ : ∃ o, rowT ((m12a, m12b, m12c), (m13a, m13b, m13c), (m14a, m14b, m14c), (m15a, m15b, m15c)) ((a1, a2, a3), (b1, b2, b3), (c1, c2, c3), (d1, d2, d3)) = o := ⟨_, rfl⟩
  rw [E]
  have HE := Lib.hid E
  clear E
  have ct := Bt.cell
  have ft := Bt.free
  have lt_w := Bt.lt
  have co := Bo.cell
  have fo := Bo.free
  have lo_w := Bo.lt
  go_enter Tryd.func43, Tryd.ntmps43
  go_wp2_with fail
  refine wp_loop_rounds 5 ?_
  rw [rounds_succ]
  go_upto_region 5 with fail
  cases o0 with
  | none =>
    have D := Lib.hid fun w => (T0.out w).mono fun e w' h => And.intro (h.2.1 rfl) h.2.2
    go_region_held3 (fun w' => (∀ k, w'.cell? ⟨bo, k, none⟩ = [.int .i64 a1, .int .i64 a2, .int .i64 a3, .int .i64 b1, .int .i64 b2, .int .i64 b3, .int .i64 c1, .int .i64 c2, .int .i64 c3, .int .i64 d1, .int .i64 d2, .int .i64 d3][k]?) ∧ (∀ k, w'.cell? ⟨w.heap.size + 1 + 1, k, none⟩ = [.int .i64 m12a, .int .i64 m12b, .int .i64 m12c][k]?))
      (((try dsimp only); (refine ⟨Blk.cell ?_, Blk.cell ?_⟩ <;> (repeat' (first | (with_reducible first | assumption | refine Blk.drew ?_ | refine Blk.drewN ?_ _ | apply Blk.set | (refine Blk.new ?_; focus (first | rfl | (simp; done))) | refine Blk.alloc ?_ _ | refine Blk.other ?_ ?_ _) | exact eqL rfl | (refine neB ?_; omega))))))
      (first
        | (go_at_call 60; refine (D.out _).mono ?_; rintro e W9 ⟨⟨s, rfl⟩, hb⟩; (try (refine with_fact (A := Blk W9 (w.heap.size + 1 + 1 + 1) [.int .i64 0, .int .i64 0, .int .i64 0]) ?_ ?_; (focus (refine Blk.keep hb ?_; (repeat' (first | (with_reducible first | assumption | refine Blk.drew ?_ | refine Blk.drewN ?_ _ | apply Blk.set | (refine Blk.new ?_; focus (first | rfl | (simp; done))) | refine Blk.alloc ?_ _ | refine Blk.other ?_ ?_ _) | exact eqL rfl | (refine neB ?_; omega))); done)); intro Bz0; have cz0 := Bz0.cell; have fz0 := Bz0.free; have lz0 := Bz0.lt)); (try (refine with_fact (A := Blk W9 (w.heap.size + 1 + 1 + 1 + 1) [.int .i64 0, .int .i64 0, .int .i64 0]) ?_ ?_; (focus (refine Blk.keep hb ?_; (repeat' (first | (with_reducible first | assumption | refine Blk.drew ?_ | refine Blk.drewN ?_ _ | apply Blk.set | (refine Blk.new ?_; focus (first | rfl | (simp; done))) | refine Blk.alloc ?_ _ | refine Blk.other ?_ ?_ _) | exact eqL rfl | (refine neB ?_; omega))); done)); intro Bz1; have cz1 := Bz1.cell; have fz1 := Bz1.free; have lz1 := Bz1.lt)); have Bt : Blk W9 (bt) VT := Blk.keep hb (by repeat' (first | (with_reducible first | assumption | refine Blk.drew ?_ | refine Blk.drewN ?_ _ | apply Blk.set | (refine Blk.new ?_; focus (first | rfl | (simp; done))) | refine Blk.alloc ?_ _ | refine Blk.other ?_ ?_ _) | exact eqL rfl | (refine neB ?_; omega))); have Bo : Blk W9 (bo) [.int .i64 a1, .int .i64 a2, .int .i64 a3, .int .i64 b1, .int .i64 b2, .int .i64 b3, .int .i64 c1, .int .i64 c2, .int .i64 c3, .int .i64 d1, .int .i64 d2, .int .i64 d3] := Blk.keep hb (by repeat' (first | (with_reducible first | assumption | refine Blk.drew ?_ | refine Blk.drewN ?_ _ | apply Blk.set | (refine Blk.new ?_; focus (first | rfl | (simp; done))) | refine Blk.alloc ?_ _ | refine Blk.other ?_ ?_ _) | exact eqL rfl | (refine neB ?_; omega))); have Br : Blk W9 (w.heap.size) [.int .i64 0, .int .i64 0, .int .i64 0] := Blk.keep hb (by repeat' (first | (with_reducible first | assumption | refine Blk.drew ?_ | refine Blk.drewN ?_ _ | apply Blk.set | (refine Blk.new ?_; focus (first | rfl | (simp; done))) | refine Blk.alloc ?_ _ | refine Blk.other ?_ ?_ _) | exact eqL rfl | (refine neB ?_; omega))); have Bs : Blk W9 (w.heap.size + 1) [.int .i64 0, .int .i64 0, .int .i64 1] := Blk.keep hb (by repeat' (first | (with_reducible first | assumption | refine Blk.drew ?_ | refine Blk.drewN ?_ _ | apply Blk.set | (refine Blk.new ?_; focus (first | rfl | (simp; done))) | refine Blk.alloc ?_ _ | refine Blk.other ?_ ?_ _) | exact eqL rfl | (refine neB ?_; omega))); have Bx : Blk W9 (w.heap.size + 1 + 1) [.int .i64 m12a, .int .i64 m12b, .int .i64 m12c] := Blk.keep hb (by repeat' (first | (with_reducible first | assumption | refine Blk.drew ?_ | refine Blk.drewN ?_ _ | apply Blk.set | (refine Blk.new ?_; focus (first | rfl | (simp; done))) | refine Blk.alloc ?_ _ | refine Blk.other ?_ ?_ _) | exact eqL rfl | (refine neB ?_; omega))); have ct := Bt.cell; have ft := Bt.free; have lt_W9 := Bt.lt; have co := Bo.cell; have fo := Bo.free; have lo_W9 := Bo.lt; have cr := Br.cell; have fr := Br.free; have lr_W9 := Br.lt; have cs := Bs.cell; have fs := Bs.free; have ls_W9 := Bs.lt; have cx := Bx.cell; have fx := Bx.free; have lx_W9 := Bx.lt; have kaW9 : Acc w W9 := (by refine Acc.call ?_ hb; (repeat' (first | (with_reducible first | assumption | exact Acc.refl _ | refine Acc.drew ?_ | refine Acc.drewN ?_ _ | refine Acc.alloc ?_ _ | refine Acc.setCell ?_ ?_ _) | (refine leB ?_; omega)))); clear hb))
    all_goals
      obtain rfl : o = none := HE.out.symm.trans (by unfold rowT tT; simp only [P0.out]; simp [sO])
      go_wp2_with fail
      refine bodyPost_ret (v := .tuple #[.agg #[.int .i64 0, .int .i64 0, .int .i64 0], .iface 113 (.agg #[.string s])]) (by simp [results, Tryd.results43, go_sem, *]) rfl ⟨fun _ _ _ h => (by cases h), fun _ => ⟨_, rfl⟩, ?_⟩
      show Acc w _
      (repeat' (first | (with_reducible first | assumption | exact Acc.refl _ | refine Acc.drew ?_ | refine Acc.drewN ?_ _ | refine Acc.alloc ?_ _ | refine Acc.setCell ?_ ?_ _) | (refine leB ?_; omega)))
  | some v =>
    obtain ⟨pp1, pp2, pp3⟩ := v
    have D := Lib.hid fun w => (T0.out w).mono fun e w' h => And.intro (h.1 _ _ _ rfl) h.2.2
    go_cut [9, 10] (fun s9 s10 wx => ∃ pv1x : Nat, s9 = .pointer (some ⟨pv1x, 0, none⟩) ∧ s10 = .nilIface ∧ Blk wx (pv1x) [.int .i64 pp1, .int .i64 pp2, .int .i64 pp3] ∧ Blk wx (bt) VT ∧ Blk wx (bo) [.int .i64 a1, .int .i64 a2, .int .i64 a3, .int .i64 b1, .int .i64 b2, .int .i64 b3, .int .i64 c1, .int .i64 c2, .int .i64 c3, .int .i64 d1, .int .i64 d2, .int .i64 d3] ∧ Blk wx (w.heap.size) [.int .i64 0, .int .i64 0, .int .i64 0] ∧ Blk wx (w.heap.size + 1) [.int .i64 0, .int .i64 0, .int .i64 1] ∧ bt < pv1x ∧ bo < pv1x ∧ w.heap.size < pv1x ∧ w.heap.size + 1 < pv1x ∧ w.heap.size + 1 + 1 < pv1x ∧ Acc w wx)
    case first =>
      go_region_held3 (fun w' => (∀ k, w'.cell? ⟨bo, k, none⟩ = [.int .i64 a1, .int .i64 a2, .int .i64 a3, .int .i64 b1, .int .i64 b2, .int .i64 b3, .int .i64 c1, .int .i64 c2, .int .i64 c3, .int .i64 d1, .int .i64 d2, .int .i64 d3][k]?) ∧ (∀ k, w'.cell? ⟨w.heap.size + 1 + 1, k, none⟩ = [.int .i64 m12a, .int .i64 m12b, .int .i64 m12c][k]?))
        (((try dsimp only); (refine ⟨Blk.cell ?_, Blk.cell ?_⟩ <;> (repeat' (first | (with_reducible first | assumption | refine Blk.drew ?_ | refine Blk.drewN ?_ _ | apply Blk.set | (refine Blk.new ?_; focus (first | rfl | (simp; done))) | refine Blk.alloc ?_ _ | refine Blk.other ?_ ?_ _) | exact eqL rfl | (refine neB ?_; omega))))))
        (first
          | (go_at_call 60; refine (D.out _).mono ?_; rintro e W9 ⟨rfl, hb⟩; (try (refine with_fact (A := Blk W9 (w.heap.size + 1 + 1 + 1) [.int .i64 0, .int .i64 0, .int .i64 0]) ?_ ?_; (focus (refine Blk.keep hb ?_; (repeat' (first | (with_reducible first | assumption | refine Blk.drew ?_ | refine Blk.drewN ?_ _ | apply Blk.set | (refine Blk.new ?_; focus (first | rfl | (simp; done))) | refine Blk.alloc ?_ _ | refine Blk.other ?_ ?_ _) | exact eqL rfl | (refine neB ?_; omega))); done)); intro Bz0; have cz0 := Bz0.cell; have fz0 := Bz0.free; have lz0 := Bz0.lt)); (try (refine with_fact (A := Blk W9 (w.heap.size + 1 + 1 + 1 + 1) [.int .i64 0, .int .i64 0, .int .i64 0]) ?_ ?_; (focus (refine Blk.keep hb ?_; (repeat' (first | (with_reducible first | assumption | refine Blk.drew ?_ | refine Blk.drewN ?_ _ | apply Blk.set | (refine Blk.new ?_; focus (first | rfl | (simp; done))) | refine Blk.alloc ?_ _ | refine Blk.other ?_ ?_ _) | exact eqL rfl | (refine neB ?_; omega))); done)); intro Bz1; have cz1 := Bz1.cell; have fz1 := Bz1.free; have lz1 := Bz1.lt)); have Bt : Blk W9 (bt) VT := Blk.keep hb (by repeat' (first | (with_reducible first | assumption | refine Blk.drew ?_ | refine Blk.drewN ?_ _ | apply Blk.set | (refine Blk.new ?_; focus (first | rfl | (simp; done))) | refine Blk.alloc ?_ _ | refine Blk.other ?_ ?_ _) | exact eqL rfl | (refine neB ?_; omega))); have Bo : Blk W9 (bo) [.int .i64 a1, .int .i64 a2, .int .i64 a3, .int .i64 b1, .int .i64 b2, .int .i64 b3, .int .i64 c1, .int .i64 c2, .int .i64 c3, .int .i64 d1, .int .i64 d2, .int .i64 d3] := Blk.keep hb (by repeat' (first | (with_reducible first | assumption | refine Blk.drew ?_ | refine Blk.drewN ?_ _ | apply Blk.set | (refine Blk.new ?_; focus (first | rfl | (simp; done))) | refine Blk.alloc ?_ _ | refine Blk.other ?_ ?_ _) | exact eqL rfl | (refine neB ?_; omega))); have Br : Blk W9 (w.heap.size) [.int .i64 0, .int .i64 0, .int .i64 0] := Blk.keep hb (by repeat' (first | (with_reducible first | assumption | refine Blk.drew ?_ | refine Blk.drewN ?_ _ | apply Blk.set | (refine Blk.new ?_; focus (first | rfl | (simp; done))) | refine Blk.alloc ?_ _ | refine Blk.other ?_ ?_ _) | exact eqL rfl | (refine neB ?_; omega))); have Bs : Blk W9 (w.heap.size + 1) [.int .i64 0, .int .i64 0, .int .i64 1] := Blk.keep hb (by repeat' (first | (with_reducible first | assumption | refine Blk.drew ?_ | refine Blk.drewN ?_ _ | apply Blk.set | (refine Blk.new ?_; focus (first | rfl | (simp; done))) | refine Blk.alloc ?_ _ | refine Blk.other ?_ ?_ _) | exact eqL rfl | (refine neB ?_; omega))); have Bx : Blk W9 (w.heap.size + 1 + 1) [.int .i64 m12a, .int .i64 m12b, .int .i64 m12c] := Blk.keep hb (by repeat' (first | (with_reducible first | assumption | refine Blk.drew ?_ | refine Blk.drewN ?_ _ | apply Blk.set | (refine Blk.new ?_; focus (first | rfl | (simp; done))) | refine Blk.alloc ?_ _ | refine Blk.other ?_ ?_ _) | exact eqL rfl | (refine neB ?_; omega))); have ct := Bt.cell; have ft := Bt.free; have lt_W9 := Bt.lt; have co := Bo.cell; have fo := Bo.free; have lo_W9 := Bo.lt; have cr := Br.cell; have fr := Br.free; have lr_W9 := Br.lt; have cs := Bs.cell; have fs := Bs.free; have ls_W9 := Bs.lt; have cx := Bx.cell; have fx := Bx.free; have lx_W9 := Bx.lt; have kaW9 : Acc w W9 := (by refine Acc.call ?_ hb; (repeat' (first | (with_reducible first | assumption | exact Acc.refl _ | refine Acc.drew ?_ | refine Acc.drewN ?_ _ | refine Acc.alloc ?_ _ | refine Acc.setCell ?_ ?_ _) | (refine leB ?_; omega)))); clear hb))
      all_goals
        go_wp2_with fail
      all_goals
        go_meet
        refine ⟨_, rfl, rfl, ?_⟩
        and_intros
        all_goals
          first
            | ((repeat' (first | (with_reducible first | assumption | refine Blk.drew ?_ | refine Blk.drewN ?_ _ | apply Blk.set | (refine Blk.new ?_; focus (first | rfl | (simp; done))) | refine Blk.alloc ?_ _ | refine Blk.other ?_ ?_ _) | exact eqL rfl | (refine neB ?_; omega))); done)
            | ((show Acc w _); (repeat' (first | (with_reducible first | assumption | exact Acc.refl _ | refine Acc.drew ?_ | refine Acc.drewN ?_ _ | refine Acc.alloc ?_ _ | refine Acc.setCell ?_ ?_ _) | (refine leB ?_; omega))); done)
            | (refine leB ?_; omega)
    case rest =>
      obtain ⟨pv1x, rfl, rfl, Bv, Bt, Bo, Br, Bs, low5_0, low5_1, low5_2, low5_3, low5_4, kawc⟩ := hcut
      have cv := Bv.cell
      have fv := Bv.free
      have lv_wc := Bv.lt
      have ct := Bt.cell
      have ft := Bt.free
      have lt_wc := Bt.lt
      have co := Bo.cell
      have fo := Bo.free
      have lo_wc := Bo.lt
      have cr := Br.cell
      have fr := Br.free
      have lr_wc := Br.lt
      have cs := Bs.cell
      have fs := Bs.free
      have ls_wc := Bs.lt
      go_wp2_with fail
      have Z0 : sumF 1 0 0 1 pp1 pp2 pp3 = some (pp1, pp2, pp3) := sT_zero' (tT_ok (show tT (m12a, m12b, m12c) (a1, a2, a3) = some (pp1, pp2, pp3) from P0.out))
      have okp := okF_i64 (tT_ok (show tT (m12a, m12b, m12c) (a1, a2, a3) = some (pp1, pp2, pp3) from P0.out))
      have U := Lib.hid fun w => plus_any 0 0 1 pp1 pp2 pp3 w (by unfold i64B; omega) (by unfold i64B; omega) (by unfold i64B; omega) okp.1 okp.2.1 okp.2.2
      rw [Z0] at U
      clear Z0 okp
      refine (U.out _).mono ?_
      rintro e W1 ⟨h, -, hb⟩
      obtain rfl := h _ _ _ rfl
      clear h
      have Bv : Blk W1 (pv1x) [.int .i64 pp1, .int .i64 pp2, .int .i64 pp3] := Blk.keep hb (by repeat' (first | (with_reducible first | assumption | refine Blk.drew ?_ | refine Blk.drewN ?_ _ | apply Blk.set | (refine Blk.new ?_; focus (first | rfl | (simp; done))) | refine Blk.alloc ?_ _ | refine Blk.other ?_ ?_ _) | exact eqL rfl | (refine neB ?_; omega)))
      have Bt : Blk W1 (bt) VT := Blk.keep hb (by repeat' (first | (with_reducible first | assumption | refine Blk.drew ?_ | refine Blk.drewN ?_ _ | apply Blk.set | (refine Blk.new ?_; focus (first | rfl | (simp; done))) | refine Blk.alloc ?_ _ | refine Blk.other ?_ ?_ _) | exact eqL rfl | (refine neB ?_; omega)))
      have Bo : Blk W1 (bo) [.int .i64 a1, .int .i64 a2, .int .i64 a3, .int .i64 b1, .int .i64 b2, .int .i64 b3, .int .i64 c1, .int .i64 c2, .int .i64 c3, .int .i64 d1, .int .i64 d2, .int .i64 d3] := Blk.keep hb (by repeat' (first | (with_reducible first | assumption | refine Blk.drew ?_ | refine Blk.drewN ?_ _ | apply Blk.set | (refine Blk.new ?_; focus (first | rfl | (simp; done))) | refine Blk.alloc ?_ _ | refine Blk.other ?_ ?_ _) | exact eqL rfl | (refine neB ?_; omega)))
      have Br : Blk W1 (w.heap.size) [.int .i64 0, .int .i64 0, .int .i64 0] := Blk.keep hb (by repeat' (first | (with_reducible first | assumption | refine Blk.drew ?_ | refine Blk.drewN ?_ _ | apply Blk.set | (refine Blk.new ?_; focus (first | rfl | (simp; done))) | refine Blk.alloc ?_ _ | refine Blk.other ?_ ?_ _) | exact eqL rfl | (refine neB ?_; omega)))
      have Bs : Blk W1 (w.heap.size + 1) [.int .i64 0, .int .i64 0, .int .i64 1] := Blk.keep hb (by repeat' (first | (with_reducible first | assumption | refine Blk.drew ?_ | refine Blk.drewN ?_ _ | apply Blk.set | (refine Blk.new ?_; focus (first | rfl | (simp; done))) | refine Blk.alloc ?_ _ | refine Blk.other ?_ ?_ _) | exact eqL rfl | (refine neB ?_; omega)))
      have cv := Bv.cell
      have fv := Bv.free
      have lv_W1 := Bv.lt
      have ct := Bt.cell
      have ft := Bt.free
      have lt_W1 := Bt.lt
      have co := Bo.cell
      have fo := Bo.free
      have lo_W1 := Bo.lt
      have cr := Br.cell
      have fr := Br.free
      have lr_W1 := Br.lt
      have cs := Bs.cell
      have fs := Bs.free
      have ls_W1 := Bs.lt
      have kaW1 : Acc w W1 := by
        refine Acc.call ?_ hb
        (repeat' (first | (with_reducible first | assumption | exact Acc.refl _ | refine Acc.drew ?_ | refine Acc.drewN ?_ _ | refine Acc.alloc ?_ _ | refine Acc.setCell ?_ ?_ _) | (refine leB ?_; omega)))
      clear hb
      go_wp2_with fail
      rw [rounds_succ]
      go_upto_region 5 with fail
      cases o1 with
      | none =>
        have D := Lib.hid fun w => (T1.out w).mono fun e w' h => And.intro (h.2.1 rfl) h.2.2
        go_region_held3 (fun w' => (∀ k, w'.cell? ⟨bo, k, none⟩ = [.int .i64 a1, .int .i64 a2, .int .i64 a3, .int .i64 b1, .int .i64 b2, .int .i64 b3, .int .i64 c1, .int .i64 c2, .int .i64 c3, .int .i64 d1, .int .i64 d2, .int .i64 d3][k]?) ∧ (∀ k, w'.cell? ⟨W1.heap.size, k, none⟩ = [.int .i64 m13a, .int .i64 m13b, .int .i64 m13c][k]?))
          (((try dsimp only); (refine ⟨Blk.cell ?_, Blk.cell ?_⟩ <;> (repeat' (first | (with_reducible first | assumption | refine Blk.drew ?_ | refine Blk.drewN ?_ _ | apply Blk.set | (refine Blk.new ?_; focus (first | rfl | (simp; done))) | refine Blk.alloc ?_ _ | refine Blk.other ?_ ?_ _) | exact eqL rfl | (refine neB ?_; omega))))))
          (first
            | (go_at_call 60; refine (D.out _).mono ?_; rintro e W9 ⟨⟨s, rfl⟩, hb⟩; (try (refine with_fact (A := Blk W9 (W1.heap.size + 1) [.int .i64 0, .int .i64 0, .int .i64 0]) ?_ ?_; (focus (refine Blk.keep hb ?_; (repeat' (first | (with_reducible first | assumption | refine Blk.drew ?_ | refine Blk.drewN ?_ _ | apply Blk.set | (refine Blk.new ?_; focus (first | rfl | (simp; done))) | refine Blk.alloc ?_ _ | refine Blk.other ?_ ?_ _) | exact eqL rfl | (refine neB ?_; omega))); done)); intro Bz0; have cz0 := Bz0.cell; have fz0 := Bz0.free; have lz0 := Bz0.lt)); (try (refine with_fact (A := Blk W9 (W1.heap.size + 1 + 1) [.int .i64 0, .int .i64 0, .int .i64 0]) ?_ ?_; (focus (refine Blk.keep hb ?_; (repeat' (first | (with_reducible first | assumption | refine Blk.drew ?_ | refine Blk.drewN ?_ _ | apply Blk.set | (refine Blk.new ?_; focus (first | rfl | (simp; done))) | refine Blk.alloc ?_ _ | refine Blk.other ?_ ?_ _) | exact eqL rfl | (refine neB ?_; omega))); done)); intro Bz1; have cz1 := Bz1.cell; have fz1 := Bz1.free; have lz1 := Bz1.lt)); have Bt : Blk W9 (bt) VT := Blk.keep hb (by repeat' (first | (with_reducible first | assumption | refine Blk.drew ?_ | refine Blk.drewN ?_ _ | apply Blk.set | (refine Blk.new ?_; focus (first | rfl | (simp; done))) | refine Blk.alloc ?_ _ | refine Blk.other ?_ ?_ _) | exact eqL rfl | (refine neB ?_; omega))); have Bo : Blk W9 (bo) [.int .i64 a1, .int .i64 a2, .int .i64 a3, .int .i64 b1, .int .i64 b2, .int .i64 b3, .int .i64 c1, .int .i64 c2, .int .i64 c3, .int .i64 d1, .int .i64 d2, .int .i64 d3] := Blk.keep hb (by repeat' (first | (with_reducible first | assumption | refine Blk.drew ?_ | refine Blk.drewN ?_ _ | apply Blk.set | (refine Blk.new ?_; focus (first | rfl | (simp; done))) | refine Blk.alloc ?_ _ | refine Blk.other ?_ ?_ _) | exact eqL rfl | (refine neB ?_; omega))); have Br : Blk W9 (w.heap.size) [.int .i64 0, .int .i64 0, .int .i64 0] := Blk.keep hb (by repeat' (first | (with_reducible first | assumption | refine Blk.drew ?_ | refine Blk.drewN ?_ _ | apply Blk.set | (refine Blk.new ?_; focus (first | rfl | (simp; done))) | refine Blk.alloc ?_ _ | refine Blk.other ?_ ?_ _) | exact eqL rfl | (refine neB ?_; omega))); have Bs : Blk W9 (w.heap.size + 1) [.int .i64 pp1, .int .i64 pp2, .int .i64 pp3] := Blk.keep hb (by repeat' (first | (with_reducible first | assumption | refine Blk.drew ?_ | refine Blk.drewN ?_ _ | apply Blk.set | (refine Blk.new ?_; focus (first | rfl | (simp; done))) | refine Blk.alloc ?_ _ | refine Blk.other ?_ ?_ _) | exact eqL rfl | (refine neB ?_; omega))); have Bx : Blk W9 (W1.heap.size) [.int .i64 m13a, .int .i64 m13b, .int .i64 m13c] := Blk.keep hb (by repeat' (first | (with_reducible first | assumption | refine Blk.drew ?_ | refine Blk.drewN ?_ _ | apply Blk.set | (refine Blk.new ?_; focus (first | rfl | (simp; done))) | refine Blk.alloc ?_ _ | refine Blk.other ?_ ?_ _) | exact eqL rfl | (refine neB ?_; omega))); have ct := Bt.cell; have ft := Bt.free; have lt_W9 := Bt.lt; have co := Bo.cell; have fo := Bo.free; have lo_W9 := Bo.lt; have cr := Br.cell; have fr := Br.free; have lr_W9 := Br.lt; have cs := Bs.cell; have fs := Bs.free; have ls_W9 := Bs.lt; have cx := Bx.cell; have fx := Bx.free; have lx_W9 := Bx.lt; have kaW9 : Acc w W9 := (by refine Acc.call ?_ hb; (repeat' (first | (with_reducible first | assumption | exact Acc.refl _ | refine Acc.drew ?_ | refine Acc.drewN ?_ _ | refine Acc.alloc ?_ _ | refine Acc.setCell ?_ ?_ _) | (refine leB ?_; omega)))); clear hb))
        all_goals
          obtain rfl : o = none := HE.out.symm.trans (by unfold rowT tT; simp only [P0.out, P1.out]; simp [sO])
          go_wp2_with fail
          refine bodyPost_ret (v := .tuple #[.agg #[.int .i64 0, .int .i64 0, .int .i64 0], .iface 113 (.agg #[.string s])]) (by simp [results, Tryd.results43, go_sem, *]) rfl ⟨fun _ _ _ h => (by cases h), fun _ => ⟨_, rfl⟩, ?_⟩
          show Acc w _
          (repeat' (first | (with_reducible first | assumption | exact Acc.refl _ | refine Acc.drew ?_ | refine Acc.drewN ?_ _ | refine Acc.alloc ?_ _ | refine Acc.setCell ?_ ?_ _) | (refine leB ?_; omega)))
      | some v =>
        obtain ⟨pq1, pq2, pq3⟩ := v
        have D := Lib.hid fun w => (T1.out w).mono fun e w' h => And.intro (h.1 _ _ _ rfl) h.2.2
        go_cut [9, 10] (fun s9 s10 wx => ∃ pv1x : Nat, s9 = .pointer (some ⟨pv1x, 0, none⟩) ∧ s10 = .nilIface ∧ Blk wx (pv1x) [.int .i64 pq1, .int .i64 pq2, .int .i64 pq3] ∧ Blk wx (bt) VT ∧ Blk wx (bo) [.int .i64 a1, .int .i64 a2, .int .i64 a3, .int .i64 b1, .int .i64 b2, .int .i64 b3, .int .i64 c1, .int .i64 c2, .int .i64 c3, .int .i64 d1, .int .i64 d2, .int .i64 d3] ∧ Blk wx (w.heap.size) [.int .i64 0, .int .i64 0, .int .i64 0] ∧ Blk wx (w.heap.size + 1) [.int .i64 pp1, .int .i64 pp2, .int .i64 pp3] ∧ bt < pv1x ∧ bo < pv1x ∧ w.heap.size < pv1x ∧ w.heap.size + 1 < pv1x ∧ W1.heap.size < pv1x ∧ Acc w wx)
        case first =>
          go_region_held3 (fun w' => (∀ k, w'.cell? ⟨bo, k, none⟩ = [.int .i64 a1, .int .i64 a2, .int .i64 a3, .int .i64 b1, .int .i64 b2, .int .i64 b3, .int .i64 c1, .int .i64 c2, .int .i64 c3, .int .i64 d1, .int .i64 d2, .int .i64 d3][k]?) ∧ (∀ k, w'.cell? ⟨W1.heap.size, k, none⟩ = [.int .i64 m13a, .int .i64 m13b, .int .i64 m13c][k]?))
            (((try dsimp only); (refine ⟨Blk.cell ?_, Blk.cell ?_⟩ <;> (repeat' (first | (with_reducible first | assumption | refine Blk.drew ?_ | refine Blk.drewN ?_ _ | apply Blk.set | (refine Blk.new ?_; focus (first | rfl | (simp; done))) | refine Blk.alloc ?_ _ | refine Blk.other ?_ ?_ _) | exact eqL rfl | (refine neB ?_; omega))))))
            (first
              | (go_at_call 60; refine (D.out _).mono ?_; rintro e W9 ⟨rfl, hb⟩; (try (refine with_fact (A := Blk W9 (W1.heap.size + 1) [.int .i64 0, .int .i64 0, .int .i64 0]) ?_ ?_; (focus (refine Blk.keep hb ?_; (repeat' (first | (with_reducible first | assumption | refine Blk.drew ?_ | refine Blk.drewN ?_ _ | apply Blk.set | (refine Blk.new ?_; focus (first | rfl | (simp; done))) | refine Blk.alloc ?_ _ | refine Blk.other ?_ ?_ _) | exact eqL rfl | (refine neB ?_; omega))); done)); intro Bz0; have cz0 := Bz0.cell; have fz0 := Bz0.free; have lz0 := Bz0.lt)); (try (refine with_fact (A := Blk W9 (W1.heap.size + 1 + 1) [.int .i64 0, .int .i64 0, .int .i64 0]) ?_ ?_; (focus (refine Blk.keep hb ?_; (repeat' (first | (with_reducible first | assumption | refine Blk.drew ?_ | refine Blk.drewN ?_ _ | apply Blk.set | (refine Blk.new ?_; focus (first | rfl | (simp; done))) | refine Blk.alloc ?_ _ | refine Blk.other ?_ ?_ _) | exact eqL rfl | (refine neB ?_; omega))); done)); intro Bz1; have cz1 := Bz1.cell; have fz1 := Bz1.free; have lz1 := Bz1.lt)); have Bt : Blk W9 (bt) VT := Blk.keep hb (by repeat' (first | (with_reducible first | assumption | refine Blk.drew ?_ | refine Blk.drewN ?_ _ | apply Blk.set | (refine Blk.new ?_; focus (first | rfl | (simp; done))) | refine Blk.alloc ?_ _ | refine Blk.other ?_ ?_ _) | exact eqL rfl | (refine neB ?_; omega))); have Bo : Blk W9 (bo) [.int .i64 a1, .int .i64 a2, .int .i64 a3, .int .i64 b1, .int .i64 b2, .int .i64 b3, .int .i64 c1, .int .i64 c2, .int .i64 c3, .int .i64 d1, .int .i64 d2, .int .i64 d3] := Blk.keep hb (by repeat' (first | (with_reducible first | assumption | refine Blk.drew ?_ | refine Blk.drewN ?_ _ | apply Blk.set | (refine Blk.new ?_; focus (first | rfl | (simp; done))) | refine Blk.alloc ?_ _ | refine Blk.other ?_ ?_ _) | exact eqL rfl | (refine neB ?_; omega))); have Br : Blk W9 (w.heap.size) [.int .i64 0, .int .i64 0, .int .i64 0] := Blk.keep hb (by repeat' (first | (with_reducible first | assumption | refine Blk.drew ?_ | refine Blk.drewN ?_ _ | apply Blk.set | (refine Blk.new ?_; focus (first | rfl | (simp; done))) | refine Blk.alloc ?_ _ | refine Blk.other ?_ ?_ _) | exact eqL rfl | (refine neB ?_; omega))); have Bs : Blk W9 (w.heap.size + 1) [.int .i64 pp1, .int .i64 pp2, .int .i64 pp3] := Blk.keep hb (by repeat' (first | (with_reducible first | assumption | refine Blk.drew ?_ | refine Blk.drewN ?_ _ | apply Blk.set | (refine Blk.new ?_; focus (first | rfl | (simp; done))) | refine Blk.alloc ?_ _ | refine Blk.other ?_ ?_ _) | exact eqL rfl | (refine neB ?_; omega))); have Bx : Blk W9 (W1.heap.size) [.int .i64 m13a, .int .i64 m13b, .int .i64 m13c] := Blk.keep hb (by repeat' (first | (with_reducible first | assumption | refine Blk.drew ?_ | refine Blk.drewN ?_ _ | apply Blk.set | (refine Blk.new ?_; focus (first | rfl | (simp; done))) | refine Blk.alloc ?_ _ | refine Blk.other ?_ ?_ _) | exact eqL rfl | (refine neB ?_; omega))); have ct := Bt.cell; have ft := Bt.free; have lt_W9 := Bt.lt; have co := Bo.cell; have fo := Bo.free; have lo_W9 := Bo.lt; have cr := Br.cell; have fr := Br.free; have lr_W9 := Br.lt; have cs := Bs.cell; have fs := Bs.free; have ls_W9 := Bs.lt; have cx := Bx.cell; have fx := Bx.free; have lx_W9 := Bx.lt; have kaW9 : Acc w W9 := (by refine Acc.call ?_ hb; (repeat' (first | (with_reducible first | assumption | exact Acc.refl _ | refine Acc.drew ?_ | refine Acc.drewN ?_ _ | refine Acc.alloc ?_ _ | refine Acc.setCell ?_ ?_ _) | (refine leB ?_; omega)))); clear hb))
          all_goals
            go_wp2_with fail
          all_goals
            go_meet
            refine ⟨_, rfl, rfl, ?_⟩
            and_intros
            all_goals
              first
                | ((repeat' (first | (with_reducible first | assumption | refine Blk.drew ?_ | refine Blk.drewN ?_ _ | apply Blk.set | (refine Blk.new ?_; focus (first | rfl | (simp; done))) | refine Blk.alloc ?_ _ | refine Blk.other ?_ ?_ _) | exact eqL rfl | (refine neB ?_; omega))); done)
                | ((show Acc w _); (repeat' (first | (with_reducible first | assumption | exact Acc.refl _ | refine Acc.drew ?_ | refine Acc.drewN ?_ _ | refine Acc.alloc ?_ _ | refine Acc.setCell ?_ ?_ _) | (refine leB ?_; omega))); done)
                | (refine leB ?_; omega)
        case rest =>
          obtain ⟨pv1x, rfl, rfl, Bv, Bt, Bo, Br, Bs, low5_0, low5_1, low5_2, low5_3, low5_4, kawc⟩ := hcut
          have cv := Bv.cell
          have fv := Bv.free
          have lv_wc := Bv.lt
          have ct := Bt.cell
          have ft := Bt.free
          have lt_wc := Bt.lt
          have co := Bo.cell
          have fo := Bo.free
          have lo_wc := Bo.lt
          have cr := Br.cell
          have fr := Br.free
          have lr_wc := Br.lt
          have cs := Bs.cell
          have fs := Bs.free
          have ls_wc := Bs.lt
          go_wp2_with fail
          have oka := okF_i64 (tT_ok (show tT (m12a, m12b, m12c) (a1, a2, a3) = some (pp1, pp2, pp3) from P0.out))
          have okp := okF_i64 (tT_ok (show tT (m13a, m13b, m13c) (b1, b2, b3) = some (pq1, pq2, pq3) from P1.out))
          have U := Lib.hid fun w => plus_any pp1 pp2 pp3 pq1 pq2 pq3 w oka.1 oka.2.1 oka.2.2 okp.1 okp.2.1 okp.2.2
          clear oka okp
          obtain ⟨oq, hq⟩ : ∃ o, sumF 1 pp1 pp2 pp3 pq1 pq2 pq3 = o := ⟨_, rfl⟩
          rw [hq] at U
          have S1 := Lib.hid (show sT (pp1, pp2, pp3) (pq1, pq2, pq3) = oq from hq)
          clear hq
          cases oq with
          | none =>
            refine (U.out _).mono ?_
            rintro e W2 ⟨-, h, hb⟩
            obtain ⟨s, rfl⟩ := h rfl
            clear h
            have Bv : Blk W2 (pv1x) [.int .i64 pq1, .int .i64 pq2, .int .i64 pq3] := Blk.keep hb (by repeat' (first | (with_reducible first | assumption | refine Blk.drew ?_ | refine Blk.drewN ?_ _ | apply Blk.set | (refine Blk.new ?_; focus (first | rfl | (simp; done))) | refine Blk.alloc ?_ _ | refine Blk.other ?_ ?_ _) | exact eqL rfl | (refine neB ?_; omega)))
            have Bt : Blk W2 (bt) VT := Blk.keep hb (by repeat' (first | (with_reducible first | assumption | refine Blk.drew ?_ | refine Blk.drewN ?_ _ | apply Blk.set | (refine Blk.new ?_; focus (first | rfl | (simp; done))) | refine Blk.alloc ?_ _ | refine Blk.other ?_ ?_ _) | exact eqL rfl | (refine neB ?_; omega)))
            have Bo : Blk W2 (bo) [.int .i64 a1, .int .i64 a2, .int .i64 a3, .int .i64 b1, .int .i64 b2, .int .i64 b3, .int .i64 c1, .int .i64 c2, .int .i64 c3, .int .i64 d1, .int .i64 d2, .int .i64 d3] := Blk.keep hb (by repeat' (first | (with_reducible first | assumption | refine Blk.drew ?_ | refine Blk.drewN ?_ _ | apply Blk.set | (refine Blk.new ?_; focus (first | rfl | (simp; done))) | refine Blk.alloc ?_ _ | refine Blk.other ?_ ?_ _) | exact eqL rfl | (refine neB ?_; omega)))
            have Br : Blk W2 (w.heap.size) [.int .i64 0, .int .i64 0, .int .i64 0] := Blk.keep hb (by repeat' (first | (with_reducible first | assumption | refine Blk.drew ?_ | refine Blk.drewN ?_ _ | apply Blk.set | (refine Blk.new ?_; focus (first | rfl | (simp; done))) | refine Blk.alloc ?_ _ | refine Blk.other ?_ ?_ _) | exact eqL rfl | (refine neB ?_; omega)))
            have Bs : Blk W2 (w.heap.size + 1) [.int .i64 pp1, .int .i64 pp2, .int .i64 pp3] := Blk.keep hb (by repeat' (first | (with_reducible first | assumption | refine Blk.drew ?_ | refine Blk.drewN ?_ _ | apply Blk.set | (refine Blk.new ?_; focus (first | rfl | (simp; done))) | refine Blk.alloc ?_ _ | refine Blk.other ?_ ?_ _) | exact eqL rfl | (refine neB ?_; omega)))
            have cv := Bv.cell
            have fv := Bv.free
            have lv_W2 := Bv.lt
            have ct := Bt.cell
            have ft := Bt.free
            have lt_W2 := Bt.lt
            have co := Bo.cell
            have fo := Bo.free
            have lo_W2 := Bo.lt
            have cr := Br.cell
            have fr := Br.free
            have lr_W2 := Br.lt
            have cs := Bs.cell
            have fs := Bs.free
            have ls_W2 := Bs.lt
            have kaW2 : Acc w W2 := by
              refine Acc.call ?_ hb
              (repeat' (first | (with_reducible first | assumption | exact Acc.refl _ | refine Acc.drew ?_ | refine Acc.drewN ?_ _ | refine Acc.alloc ?_ _ | refine Acc.setCell ?_ ?_ _) | (refine leB ?_; omega)))
            clear hb
            obtain rfl : o = none := HE.out.symm.trans (by unfold rowT tT; simp only [P0.out, P1.out]; simp [sO, S1.out])
            go_wp2_with fail
            refine bodyPost_ret (v := .tuple #[.agg #[.int .i64 0, .int .i64 0, .int .i64 0], .iface 113 (.agg #[.string s])]) (by simp [results, Tryd.results43, go_sem, *]) rfl ⟨fun _ _ _ h => (by cases h), fun _ => ⟨_, rfl⟩, ?_⟩
            show Acc w _
            (repeat' (first | (with_reducible first | assumption | exact Acc.refl _ | refine Acc.drew ?_ | refine Acc.drewN ?_ _ | refine Acc.alloc ?_ _ | refine Acc.setCell ?_ ?_ _) | (refine leB ?_; omega)))
          | some v =>
            obtain ⟨sa1, sa2, sa3⟩ := v
            have OA := okF_i64 (sT_val S1.out).2.2.1
            refine (U.out _).mono ?_
            rintro e W2 ⟨h, -, hb⟩
            obtain rfl := h _ _ _ rfl
            clear h
            have Bv : Blk W2 (pv1x) [.int .i64 pq1, .int .i64 pq2, .int .i64 pq3] := Blk.keep hb (by repeat' (first | (with_reducible first | assumption | refine Blk.drew ?_ | refine Blk.drewN ?_ _ | apply Blk.set | (refine Blk.new ?_; focus (first | rfl | (simp; done))) | refine Blk.alloc ?_ _ | refine Blk.other ?_ ?_ _) | exact eqL rfl | (refine neB ?_; omega)))
            have Bt : Blk W2 (bt) VT := Blk.keep hb (by repeat' (first | (with_reducible first | assumption | refine Blk.drew ?_ | refine Blk.drewN ?_ _ | apply Blk.set | (refine Blk.new ?_; focus (first | rfl | (simp; done))) | refine Blk.alloc ?_ _ | refine Blk.other ?_ ?_ _) | exact eqL rfl | (refine neB ?_; omega)))
            have Bo : Blk W2 (bo) [.int .i64 a1, .int .i64 a2, .int .i64 a3, .int .i64 b1, .int .i64 b2, .int .i64 b3, .int .i64 c1, .int .i64 c2, .int .i64 c3, .int .i64 d1, .int .i64 d2, .int .i64 d3] := Blk.keep hb (by repeat' (first | (with_reducible first | assumption | refine Blk.drew ?_ | refine Blk.drewN ?_ _ | apply Blk.set | (refine Blk.new ?_; focus (first | rfl | (simp; done))) | refine Blk.alloc ?_ _ | refine Blk.other ?_ ?_ _) | exact eqL rfl | (refine neB ?_; omega)))
            have Br : Blk W2 (w.heap.size) [.int .i64 0, .int .i64 0, .int .i64 0] := Blk.keep hb (by repeat' (first | (with_reducible first | assumption | refine Blk.drew ?_ | refine Blk.drewN ?_ _ | apply Blk.set | (refine Blk.new ?_; focus (first | rfl | (simp; done))) | refine Blk.alloc ?_ _ | refine Blk.other ?_ ?_ _) | exact eqL rfl | (refine neB ?_; omega)))
            have Bs : Blk W2 (w.heap.size + 1) [.int .i64 pp1, .int .i64 pp2, .int .i64 pp3] := Blk.keep hb (by repeat' (first | (with_reducible first | assumption | refine Blk.drew ?_ | refine Blk.drewN ?_ _ | apply Blk.set | (refine Blk.new ?_; focus (first | rfl | (simp; done))) | refine Blk.alloc ?_ _ | refine Blk.other ?_ ?_ _) | exact eqL rfl | (refine neB ?_; omega)))
            have cv := Bv.cell
            have fv := Bv.free
            have lv_W2 := Bv.lt
            have ct := Bt.cell
            have ft := Bt.free
            have lt_W2 := Bt.lt
            have co := Bo.cell
            have fo := Bo.free
            have lo_W2 := Bo.lt
            have cr := Br.cell
            have fr := Br.free
            have lr_W2 := Br.lt
            have cs := Bs.cell
            have fs := Bs.free
            have ls_W2 := Bs.lt
            have kaW2 : Acc w W2 := by
              refine Acc.call ?_ hb
              (repeat' (first | (with_reducible first | assumption | exact Acc.refl _ | refine Acc.drew ?_ | refine Acc.drewN ?_ _ | refine Acc.alloc ?_ _ | refine Acc.setCell ?_ ?_ _) | (refine leB ?_; omega)))
            clear hb
            go_wp2_with fail
            rw [rounds_succ]
            go_upto_region 5 with fail
            cases o2 with
            | none =>
              have D := Lib.hid fun w => (T2.out w).mono fun e w' h => And.intro (h.2.1 rfl) h.2.2
              go_region_held3 (fun w' => (∀ k, w'.cell? ⟨bo, k, none⟩ = [.int .i64 a1, .int .i64 a2, .int .i64 a3, .int .i64 b1, .int .i64 b2, .int .i64 b3, .int .i64 c1, .int .i64 c2, .int .i64 c3, .int .i64 d1, .int .i64 d2, .int .i64 d3][k]?) ∧ (∀ k, w'.cell? ⟨W2.heap.size, k, none⟩ = [.int .i64 m14a, .int .i64 m14b, .int .i64 m14c][k]?))
                (((try dsimp only); (refine ⟨Blk.cell ?_, Blk.cell ?_⟩ <;> (repeat' (first | (with_reducible first | assumption | refine Blk.drew ?_ | refine Blk.drewN ?_ _ | apply Blk.set | (refine Blk.new ?_; focus (first | rfl | (simp; done))) | refine Blk.alloc ?_ _ | refine Blk.other ?_ ?_ _) | exact eqL rfl | (refine neB ?_; omega))))))
                (first
                  | (go_at_call 60; refine (D.out _).mono ?_; rintro e W9 ⟨⟨s, rfl⟩, hb⟩; (try (refine with_fact (A := Blk W9 (W2.heap.size + 1) [.int .i64 0, .int .i64 0, .int .i64 0]) ?_ ?_; (focus (refine Blk.keep hb ?_; (repeat' (first | (with_reducible first | assumption | refine Blk.drew ?_ | refine Blk.drewN ?_ _ | apply Blk.set | (refine Blk.new ?_; focus (first | rfl | (simp; done))) | refine Blk.alloc ?_ _ | refine Blk.other ?_ ?_ _) | exact eqL rfl | (refine neB ?_; omega))); done)); intro Bz0; have cz0 := Bz0.cell; have fz0 := Bz0.free; have lz0 := Bz0.lt)); (try (refine with_fact (A := Blk W9 (W2.heap.size + 1 + 1) [.int .i64 0, .int .i64 0, .int .i64 0]) ?_ ?_; (focus (refine Blk.keep hb ?_; (repeat' (first | (with_reducible first | assumption | refine Blk.drew ?_ | refine Blk.drewN ?_ _ | apply Blk.set | (refine Blk.new ?_; focus (first | rfl | (simp; done))) | refine Blk.alloc ?_ _ | refine Blk.other ?_ ?_ _) | exact eqL rfl | (refine neB ?_; omega))); done)); intro Bz1; have cz1 := Bz1.cell; have fz1 := Bz1.free; have lz1 := Bz1.lt)); have Bt : Blk W9 (bt) VT := Blk.keep hb (by repeat' (first | (with_reducible first | assumption | refine Blk.drew ?_ | refine Blk.drewN ?_ _ | apply Blk.set | (refine Blk.new ?_; focus (first | rfl | (simp; done))) | refine Blk.alloc ?_ _ | refine Blk.other ?_ ?_ _) | exact eqL rfl | (refine neB ?_; omega))); have Bo : Blk W9 (bo) [.int .i64 a1, .int .i64 a2, .int .i64 a3, .int .i64 b1, .int .i64 b2, .int .i64 b3, .int .i64 c1, .int .i64 c2, .int .i64 c3, .int .i64 d1, .int .i64 d2, .int .i64 d3] := Blk.keep hb (by repeat' (first | (with_reducible first | assumption | refine Blk.drew ?_ | refine Blk.drewN ?_ _ | apply Blk.set | (refine Blk.new ?_; focus (first | rfl | (simp; done))) | refine Blk.alloc ?_ _ | refine Blk.other ?_ ?_ _) | exact eqL rfl | (refine neB ?_; omega))); have Br : Blk W9 (w.heap.size) [.int .i64 0, .int .i64 0, .int .i64 0] := Blk.keep hb (by repeat' (first | (with_reducible first | assumption | refine Blk.drew ?_ | refine Blk.drewN ?_ _ | apply Blk.set | (refine Blk.new ?_; focus (first | rfl | (simp; done))) | refine Blk.alloc ?_ _ | refine Blk.other ?_ ?_ _) | exact eqL rfl | (refine neB ?_; omega))); have Bs : Blk W9 (w.heap.size + 1) [.int .i64 sa1, .int .i64 sa2, .int .i64 sa3] := Blk.keep hb (by repeat' (first | (with_reducible first | assumption | refine Blk.drew ?_ | refine Blk.drewN ?_ _ | apply Blk.set | (refine Blk.new ?_; focus (first | rfl | (simp; done))) | refine Blk.alloc ?_ _ | refine Blk.other ?_ ?_ _) | exact eqL rfl | (refine neB ?_; omega))); have Bx : Blk W9 (W2.heap.size) [.int .i64 m14a, .int .i64 m14b, .int .i64 m14c] := Blk.keep hb (by repeat' (first | (with_reducible first | assumption | refine Blk.drew ?_ | refine Blk.drewN ?_ _ | apply Blk.set | (refine Blk.new ?_; focus (first | rfl | (simp; done))) | refine Blk.alloc ?_ _ | refine Blk.other ?_ ?_ _) | exact eqL rfl | (refine neB ?_; omega))); have ct := Bt.cell; have ft := Bt.free; have lt_W9 := Bt.lt; have co := Bo.cell; have fo := Bo.free; have lo_W9 := Bo.lt; have cr := Br.cell; have fr := Br.free; have lr_W9 := Br.lt; have cs := Bs.cell; have fs := Bs.free; have ls_W9 := Bs.lt; have cx := Bx.cell; have fx := Bx.free; have lx_W9 := Bx.lt; have kaW9 : Acc w W9 := (by refine Acc.call ?_ hb; (repeat' (first | (with_reducible first | assumption | exact Acc.refl _ | refine Acc.drew ?_ | refine Acc.drewN ?_ _ | refine Acc.alloc ?_ _ | refine Acc.setCell ?_ ?_ _) | (refine leB ?_; omega)))); clear hb))
              all_goals
                obtain rfl : o = none := HE.out.symm.trans (by unfold rowT tT; simp only [P0.out, P1.out, P2.out]; simp [sO])
                go_wp2_with fail
                refine bodyPost_ret (v := .tuple #[.agg #[.int .i64 0, .int .i64 0, .int .i64 0], .iface 113 (.agg #[.string s])]) (by simp [results, Tryd.results43, go_sem, *]) rfl ⟨fun _ _ _ h => (by cases h), fun _ => ⟨_, rfl⟩, ?_⟩
                show Acc w _
                (repeat' (first | (with_reducible first | assumption | exact Acc.refl _ | refine Acc.drew ?_ | refine Acc.drewN ?_ _ | refine Acc.alloc ?_ _ | refine Acc.setCell ?_ ?_ _) | (refine leB ?_; omega)))
            | some v =>
              obtain ⟨pr1, pr2, pr3⟩ := v
              have D := Lib.hid fun w => (T2.out w).mono fun e w' h => And.intro (h.1 _ _ _ rfl) h.2.2
              go_cut [9, 10] (fun s9 s10 wx => ∃ pv1x : Nat, s9 = .pointer (some ⟨pv1x, 0, none⟩) ∧ s10 = .nilIface ∧ Blk wx (pv1x) [.int .i64 pr1, .int .i64 pr2, .int .i64 pr3] ∧ Blk wx (bt) VT ∧ Blk wx (bo) [.int .i64 a1, .int .i64 a2, .int .i64 a3, .int .i64 b1, .int .i64 b2, .int .i64 b3, .int .i64 c1, .int .i64 c2, .int .i64 c3, .int .i64 d1, .int .i64 d2, .int .i64 d3] ∧ Blk wx (w.heap.size) [.int .i64 0, .int .i64 0, .int .i64 0] ∧ Blk wx (w.heap.size + 1) [.int .i64 sa1, .int .i64 sa2, .int .i64 sa3] ∧ bt < pv1x ∧ bo < pv1x ∧ w.heap.size < pv1x ∧ w.heap.size + 1 < pv1x ∧ W2.heap.size < pv1x ∧ Acc w wx)
              case first =>
                go_region_held3 (fun w' => (∀ k, w'.cell? ⟨bo, k, none⟩ = [.int .i64 a1, .int .i64 a2, .int .i64 a3, .int .i64 b1, .int .i64 b2, .int .i64 b3, .int .i64 c1, .int .i64 c2, .int .i64 c3, .int .i64 d1, .int .i64 d2, .int .i64 d3][k]?) ∧ (∀ k, w'.cell? ⟨W2.heap.size, k, none⟩ = [.int .i64 m14a, .int .i64 m14b, .int .i64 m14c][k]?))
                  (((try dsimp only); (refine ⟨Blk.cell ?_, Blk.cell ?_⟩ <;> (repeat' (first | (with_reducible first | assumption | refine Blk.drew ?_ | refine Blk.drewN ?_ _ | apply Blk.set | (refine Blk.new ?_; focus (first | rfl | (simp; done))) | refine Blk.alloc ?_ _ | refine Blk.other ?_ ?_ _) | exact eqL rfl | (refine neB ?_; omega))))))
                  (first
                    | (go_at_call 60; refine (D.out _).mono ?_; rintro e W9 ⟨rfl, hb⟩; (try (refine with_fact (A := Blk W9 (W2.heap.size + 1) [.int .i64 0, .int .i64 0, .int .i64 0]) ?_ ?_; (focus (refine Blk.keep hb ?_; (repeat' (first | (with_reducible first | assumption | refine Blk.drew ?_ | refine Blk.drewN ?_ _ | apply Blk.set | (refine Blk.new ?_; focus (first | rfl | (simp; done))) | refine Blk.alloc ?_ _ | refine Blk.other ?_ ?_ _) | exact eqL rfl | (refine neB ?_; omega))); done)); intro Bz0; have cz0 := Bz0.cell; have fz0 := Bz0.free; have lz0 := Bz0.lt)); (try (refine with_fact (A := Blk W9 (W2.heap.size + 1 + 1) [.int .i64 0, .int .i64 0, .int .i64 0]) ?_ ?_; (focus (refine Blk.keep hb ?_; (repeat' (first | (with_reducible first | assumption | refine Blk.drew ?_ | refine Blk.drewN ?_ _ | apply Blk.set | (refine Blk.new ?_; focus (first | rfl | (simp; done))) | refine Blk.alloc ?_ _ | refine Blk.other ?_ ?_ _) | exact eqL rfl | (refine neB ?_; omega))); done)); intro Bz1; have cz1 := Bz1.cell; have fz1 := Bz1.free; have lz1 := Bz1.lt)); have Bt : Blk W9 (bt) VT := Blk.keep hb (by repeat' (first | (with_reducible first | assumption | refine Blk.drew ?_ | refine Blk.drewN ?_ _ | apply Blk.set | (refine Blk.new ?_; focus (first | rfl | (simp; done))) | refine Blk.alloc ?_ _ | refine Blk.other ?_ ?_ _) | exact eqL rfl | (refine neB ?_; omega))); have Bo : Blk W9 (bo) [.int .i64 a1, .int .i64 a2, .int .i64 a3, .int .i64 b1, .int .i64 b2, .int .i64 b3, .int .i64 c1, .int .i64 c2, .int .i64 c3, .int .i64 d1, .int .i64 d2, .int .i64 d3] := Blk.keep hb (by repeat' (first | (with_reducible first | assumption | refine Blk.drew ?_ | refine Blk.drewN ?_ _ | apply Blk.set | (refine Blk.new ?_; focus (first | rfl | (simp; done))) | refine Blk.alloc ?_ _ | refine Blk.other ?_ ?_ _) | exact eqL rfl | (refine neB ?_; omega))); have Br : Blk W9 (w.heap.size) [.int .i64 0, .int .i64 0, .int .i64 0] := Blk.keep hb (by repeat' (first | (with_reducible first | assumption | refine Blk.drew ?_ | refine Blk.drewN ?_ _ | apply Blk.set | (refine Blk.new ?_; focus (first | rfl | (simp; done))) | refine Blk.alloc ?_ _ | refine Blk.other ?_ ?_ _) | exact eqL rfl | (refine neB ?_; omega))); have Bs : Blk W9 (w.heap.size + 1) [.int .i64 sa1, .int .i64 sa2, .int .i64 sa3] := Blk.keep hb (by repeat' (first | (with_reducible first | assumption | refine Blk.drew ?_ | refine Blk.drewN ?_ _ | apply Blk.set | (refine Blk.new ?_; focus (first | rfl | (simp; done))) | refine Blk.alloc ?_ _ | refine Blk.other ?_ ?_ _) | exact eqL rfl | (refine neB ?_; omega))); have Bx : Blk W9 (W2.heap.size) [.int .i64 m14a, .int .i64 m14b, .int .i64 m14c] := Blk.keep hb (by repeat' (first | (with_reducible first | assumption | refine Blk.drew ?_ | refine Blk.drewN ?_ _ | apply Blk.set | (refine Blk.new ?_; focus (first | rfl | (simp; done))) | refine Blk.alloc ?_ _ | refine Blk.other ?_ ?_ _) | exact eqL rfl | (refine neB ?_; omega))); have ct := Bt.cell; have ft := Bt.free; have lt_W9 := Bt.lt; have co := Bo.cell; have fo := Bo.free; have lo_W9 := Bo.lt; have cr := Br.cell; have fr := Br.free; have lr_W9 := Br.lt; have cs := Bs.cell; have fs := Bs.free; have ls_W9 := Bs.lt; have cx := Bx.cell; have fx := Bx.free; have lx_W9 := Bx.lt; have kaW9 : Acc w W9 := (by refine Acc.call ?_ hb; (repeat' (first | (with_reducible first | assumption | exact Acc.refl _ | refine Acc.drew ?_ | refine Acc.drewN ?_ _ | refine Acc.alloc ?_ _ | refine Acc.setCell ?_ ?_ _) | (refine leB ?_; omega)))); clear hb))
                all_goals
                  go_wp2_with fail
                all_goals
                  go_meet
                  refine ⟨_, rfl, rfl, ?_⟩
                  and_intros
                  all_goals
                    first
                      | ((repeat' (first | (with_reducible first | assumption | refine Blk.drew ?_ | refine Blk.drewN ?_ _ | apply Blk.set | (refine Blk.new ?_; focus (first | rfl | (simp; done))) | refine Blk.alloc ?_ _ | refine Blk.other ?_ ?_ _) | exact eqL rfl | (refine neB ?_; omega))); done)
                      | ((show Acc w _); (repeat' (first | (with_reducible first | assumption | exact Acc.refl _ | refine Acc.drew ?_ | refine Acc.drewN ?_ _ | refine Acc.alloc ?_ _ | refine Acc.setCell ?_ ?_ _) | (refine leB ?_; omega))); done)
                      | (refine leB ?_; omega)
              case rest =>
                obtain ⟨pv1x, rfl, rfl, Bv, Bt, Bo, Br, Bs, low5_0, low5_1, low5_2, low5_3, low5_4, kawc⟩ := hcut
                have cv := Bv.cell
                have fv := Bv.free
                have lv_wc := Bv.lt
                have ct := Bt.cell
                have ft := Bt.free
                have lt_wc := Bt.lt
                have co := Bo.cell
                have fo := Bo.free
                have lo_wc := Bo.lt
                have cr := Br.cell
                have fr := Br.free
                have lr_wc := Br.lt
                have cs := Bs.cell
                have fs := Bs.free
                have ls_wc := Bs.lt
                go_wp2_with fail
                have okp := okF_i64 (tT_ok (show tT (m14a, m14b, m14c) (c1, c2, c3) = some (pr1, pr2, pr3) from P2.out))
                have U := Lib.hid fun w => plus_any sa1 sa2 sa3 pr1 pr2 pr3 w OA.1 OA.2.1 OA.2.2 okp.1 okp.2.1 okp.2.2
                clear okp OA
                obtain ⟨oq, hq⟩ : ∃ o, sumF 1 sa1 sa2 sa3 pr1 pr2 pr3 = o := ⟨_, rfl⟩
                rw [hq] at U
                have S2 := Lib.hid (show sT (sa1, sa2, sa3) (pr1, pr2, pr3) = oq from hq)
                clear hq
                cases oq with
                | none =>
                  refine (U.out _).mono ?_
                  rintro e W3 ⟨-, h, hb⟩
                  obtain ⟨s, rfl⟩ := h rfl
                  clear h
                  have Bv : Blk W3 (pv1x) [.int .i64 pr1, .int .i64 pr2, .int .i64 pr3] := Blk.keep hb (by repeat' (first | (with_reducible first | assumption | refine Blk.drew ?_ | refine Blk.drewN ?_ _ | apply Blk.set | (refine Blk.new ?_; focus (first | rfl | (simp; done))) | refine Blk.alloc ?_ _ | refine Blk.other ?_ ?_ _) | exact eqL rfl | (refine neB ?_; omega)))
                  have Bt : Blk W3 (bt) VT := Blk.keep hb (by repeat' (first | (with_reducible first | assumption | refine Blk.drew ?_ | refine Blk.drewN ?_ _ | apply Blk.set | (refine Blk.new ?_; focus (first | rfl | (simp; done))) | refine Blk.alloc ?_ _ | refine Blk.other ?_ ?_ _) | exact eqL rfl | (refine neB ?_; omega)))
                  have Bo : Blk W3 (bo) [.int .i64 a1, .int .i64 a2, .int .i64 a3, .int .i64 b1, .int .i64 b2, .int .i64 b3, .int .i64 c1, .int .i64 c2, .int .i64 c3, .int .i64 d1, .int .i64 d2, .int .i64 d3] := Blk.keep hb (by repeat' (first | (with_reducible first | assumption | refine Blk.drew ?_ | refine Blk.drewN ?_ _ | apply Blk.set | (refine Blk.new ?_; focus (first | rfl | (simp; done))) | refine Blk.alloc ?_ _ | refine Blk.other ?_ ?_ _) | exact eqL rfl | (refine neB ?_; omega)))
                  have Br : Blk W3 (w.heap.size) [.int .i64 0, .int .i64 0, .int .i64 0] := Blk.keep hb (by repeat' (first | (with_reducible first | assumption | refine Blk.drew ?_ | refine Blk.drewN ?_ _ | apply Blk.set | (refine Blk.new ?_; focus (first | rfl | (simp; done))) | refine Blk.alloc ?_ _ | refine Blk.other ?_ ?_ _) | exact eqL rfl | (refine neB ?_; omega)))
                  have Bs : Blk W3 (w.heap.size + 1) [.int .i64 sa1, .int .i64 sa2, .int .i64 sa3] := Blk.keep hb (by repeat' (first | (with_reducible first | assumption | refine Blk.drew ?_ | refine Blk.drewN ?_ _ | apply Blk.set | (refine Blk.new ?_; focus (first | rfl | (simp; done))) | refine Blk.alloc ?_ _ | refine Blk.other ?_ ?_ _) | exact eqL rfl | (refine neB ?_; omega)))
                  have cv := Bv.cell
                  have fv := Bv.free
                  have lv_W3 := Bv.lt
                  have ct := Bt.cell
                  have ft := Bt.free
                  have lt_W3 := Bt.lt
                  have co := Bo.cell
                  have fo := Bo.free
                  have lo_W3 := Bo.lt
                  have cr := Br.cell
                  have fr := Br.free
                  have lr_W3 := Br.lt
                  have cs := Bs.cell
                  have fs := Bs.free
                  have ls_W3 := Bs.lt
                  have kaW3 : Acc w W3 := by
                    refine Acc.call ?_ hb
                    (repeat' (first | (with_reducible first | assumption | exact Acc.refl _ | refine Acc.drew ?_ | refine Acc.drewN ?_ _ | refine Acc.alloc ?_ _ | refine Acc.setCell ?_ ?_ _) | (refine leB ?_; omega)))
                  clear hb
                  obtain rfl : o = none := HE.out.symm.trans (by unfold rowT tT; simp only [P0.out, P1.out, P2.out]; simp [sO, S1.out, S2.out])
                  go_wp2_with fail
                  refine bodyPost_ret (v := .tuple #[.agg #[.int .i64 0, .int .i64 0, .int .i64 0], .iface 113 (.agg #[.string s])]) (by simp [results, Tryd.results43, go_sem, *]) rfl ⟨fun _ _ _ h => (by cases h), fun _ => ⟨_, rfl⟩, ?_⟩
                  show Acc w _
                  (repeat' (first | (with_reducible first | assumption | exact Acc.refl _ | refine Acc.drew ?_ | refine Acc.drewN ?_ _ | refine Acc.alloc ?_ _ | refine Acc.setCell ?_ ?_ _) | (refine leB ?_; omega)))
                | some v =>
                  obtain ⟨sb1, sb2, sb3⟩ := v
                  have OA := okF_i64 (sT_val S2.out).2.2.1
                  refine (U.out _).mono ?_
                  rintro e W3 ⟨h, -, hb⟩
                  obtain rfl := h _ _ _ rfl
                  clear h
                  have Bv : Blk W3 (pv1x) [.int .i64 pr1, .int .i64 pr2, .int .i64 pr3] := Blk.keep hb (by repeat' (first | (with_reducible first | assumption | refine Blk.drew ?_ | refine Blk.drewN ?_ _ | apply Blk.set | (refine Blk.new ?_; focus (first | rfl | (simp; done))) | refine Blk.alloc ?_ _ | refine Blk.other ?_ ?_ _) | exact eqL rfl | (refine neB ?_; omega)))
                  have Bt : Blk W3 (bt) VT := Blk.keep hb (by repeat' (first | (with_reducible first | assumption | refine Blk.drew ?_ | refine Blk.drewN ?_ _ | apply Blk.set | (refine Blk.new ?_; focus (first | rfl | (simp; done))) | refine Blk.alloc ?_ _ | refine Blk.other ?_ ?_ _) | exact eqL rfl | (refine neB ?_; omega)))
                  have Bo : Blk W3 (bo) [.int .i64 a1, .int .i64 a2, .int .i64 a3, .int .i64 b1, .int .i64 b2, .int .i64 b3, .int .i64 c1, .int .i64 c2, .int .i64 c3, .int .i64 d1, .int .i64 d2, .int .i64 d3] := Blk.keep hb (by repeat' (first | (with_reducible first | assumption | refine Blk.drew ?_ | refine Blk.drewN ?_ _ | apply Blk.set | (refine Blk.new ?_; focus (first | rfl | (simp; done))) | refine Blk.alloc ?_ _ | refine Blk.other ?_ ?_ _) | exact eqL rfl | (refine neB ?_; omega)))
                  have Br : Blk W3 (w.heap.size) [.int .i64 0, .int .i64 0, .int .i64 0] := Blk.keep hb (by repeat' (first | (with_reducible first | assumption | refine Blk.drew ?_ | refine Blk.drewN ?_ _ | apply Blk.set | (refine Blk.new ?_; focus (first | rfl | (simp; done))) | refine Blk.alloc ?_ _ | refine Blk.other ?_ ?_ _) | exact eqL rfl | (refine neB ?_; omega)))
                  have Bs : Blk W3 (w.heap.size + 1) [.int .i64 sa1, .int .i64 sa2, .int .i64 sa3] := Blk.keep hb (by repeat' (first | (with_reducible first | assumption | refine Blk.drew ?_ | refine Blk.drewN ?_ _ | apply Blk.set | (refine Blk.new ?_; focus (first | rfl | (simp; done))) | refine Blk.alloc ?_ _ | refine Blk.other ?_ ?_ _) | exact eqL rfl | (refine neB ?_; omega)))
                  have cv := Bv.cell
                  have fv := Bv.free
                  have lv_W3 := Bv.lt
                  have ct := Bt.cell
                  have ft := Bt.free
                  have lt_W3 := Bt.lt
                  have co := Bo.cell
                  have fo := Bo.free
                  have lo_W3 := Bo.lt
                  have cr := Br.cell
                  have fr := Br.free
                  have lr_W3 := Br.lt
                  have cs := Bs.cell
                  have fs := Bs.free
                  have ls_W3 := Bs.lt
                  have kaW3 : Acc w W3 := by
                    refine Acc.call ?_ hb
                    (repeat' (first | (with_reducible first | assumption | exact Acc.refl _ | refine Acc.drew ?_ | refine Acc.drewN ?_ _ | refine Acc.alloc ?_ _ | refine Acc.setCell ?_ ?_ _) | (refine leB ?_; omega)))
                  clear hb
                  go_wp2_with fail
                  rw [rounds_succ]
                  go_upto_region 5 with fail
                  cases o3 with
                  | none =>
                    have D := Lib.hid fun w => (T3.out w).mono fun e w' h => And.intro (h.2.1 rfl) h.2.2
                    go_region_held3 (fun w' => (∀ k, w'.cell? ⟨bo, k, none⟩ = [.int .i64 a1, .int .i64 a2, .int .i64 a3, .int .i64 b1, .int .i64 b2, .int .i64 b3, .int .i64 c1, .int .i64 c2, .int .i64 c3, .int .i64 d1, .int .i64 d2, .int .i64 d3][k]?) ∧ (∀ k, w'.cell? ⟨W3.heap.size, k, none⟩ = [.int .i64 m15a, .int .i64 m15b, .int .i64 m15c][k]?))
                      (((try dsimp only); (refine ⟨Blk.cell ?_, Blk.cell ?_⟩ <;> (repeat' (first | (with_reducible first | assumption | refine Blk.drew ?_ | refine Blk.drewN ?_ _ | apply Blk.set | (refine Blk.new ?_; focus (first | rfl | (simp; done))) | refine Blk.alloc ?_ _ | refine Blk.other ?_ ?_ _) | exact eqL rfl | (refine neB ?_; omega))))))
                      (first
                        | (go_at_call 60; refine (D.out _).mono ?_; rintro e W9 ⟨⟨s, rfl⟩, hb⟩; (try (refine with_fact (A := Blk W9 (W3.heap.size + 1) [.int .i64 0, .int .i64 0, .int .i64 0]) ?_ ?_; (focus (refine Blk.keep hb ?_; (repeat' (first | (with_reducible first | assumption | refine Blk.drew ?_ | refine Blk.drewN ?_ _ | apply Blk.set | (refine Blk.new ?_; focus (first | rfl | (simp; done))) | refine Blk.alloc ?_ _ | refine Blk.other ?_ ?_ _) | exact eqL rfl | (refine neB ?_; omega))); done)); intro Bz0; have cz0 := Bz0.cell; have fz0 := Bz0.free; have lz0 := Bz0.lt)); (try (refine with_fact (A := Blk W9 (W3.heap.size + 1 + 1) [.int .i64 0, .int .i64 0, .int .i64 0]) ?_ ?_; (focus (refine Blk.keep hb ?_; (repeat' (first | (with_reducible first | assumption | refine Blk.drew ?_ | refine Blk.drewN ?_ _ | apply Blk.set | (refine Blk.new ?_; focus (first | rfl | (simp; done))) | refine Blk.alloc ?_ _ | refine Blk.other ?_ ?_ _) | exact eqL rfl | (refine neB ?_; omega))); done)); intro Bz1; have cz1 := Bz1.cell; have fz1 := Bz1.free; have lz1 := Bz1.lt)); have Bt : Blk W9 (bt) VT := Blk.keep hb (by repeat' (first | (with_reducible first | assumption | refine Blk.drew ?_ | refine Blk.drewN ?_ _ | apply Blk.set | (refine Blk.new ?_; focus (first | rfl | (simp; done))) | refine Blk.alloc ?_ _ | refine Blk.other ?_ ?_ _) | exact eqL rfl | (refine neB ?_; omega))); have Bo : Blk W9 (bo) [.int .i64 a1, .int .i64 a2, .int .i64 a3, .int .i64 b1, .int .i64 b2, .int .i64 b3, .int .i64 c1, .int .i64 c2, .int .i64 c3, .int .i64 d1, .int .i64 d2, .int .i64 d3] := Blk.keep hb (by repeat' (first | (with_reducible first | assumption | refine Blk.drew ?_ | refine Blk.drewN ?_ _ | apply Blk.set | (refine Blk.new ?_; focus (first | rfl | (simp; done))) | refine Blk.alloc ?_ _ | refine Blk.other ?_ ?_ _) | exact eqL rfl | (refine neB ?_; omega))); have Br : Blk W9 (w.heap.size) [.int .i64 0, .int .i64 0, .int .i64 0] := Blk.keep hb (by repeat' (first | (with_reducible first | assumption | refine Blk.drew ?_ | refine Blk.drewN ?_ _ | apply Blk.set | (refine Blk.new ?_; focus (first | rfl | (simp; done))) | refine Blk.alloc ?_ _ | refine Blk.other ?_ ?_ _) | exact eqL rfl | (refine neB ?_; omega))); have Bs : Blk W9 (w.heap.size + 1) [.int .i64 sb1, .int .i64 sb2, .int .i64 sb3] := Blk.keep hb (by repeat' (first | (with_reducible first | assumption | refine Blk.drew ?_ | refine Blk.drewN ?_ _ | apply Blk.set | (refine Blk.new ?_; focus (first | rfl | (simp; done))) | refine Blk.alloc ?_ _ | refine Blk.other ?_ ?_ _) | exact eqL rfl | (refine neB ?_; omega))); have Bx : Blk W9 (W3.heap.size) [.int .i64 m15a, .int .i64 m15b, .int .i64 m15c] := Blk.keep hb (by repeat' (first | (with_reducible first | assumption | refine Blk.drew ?_ | refine Blk.drewN ?_ _ | apply Blk.set | (refine Blk.new ?_; focus (first | rfl | (simp; done))) | refine Blk.alloc ?_ _ | refine Blk.other ?_ ?_ _) | exact eqL rfl | (refine neB ?_; omega))); have ct := Bt.cell; have ft := Bt.free; have lt_W9 := Bt.lt; have co := Bo.cell; have fo := Bo.free; have lo_W9 := Bo.lt; have cr := Br.cell; have fr := Br.free; have lr_W9 := Br.lt; have cs := Bs.cell; have fs := Bs.free; have ls_W9 := Bs.lt; have cx := Bx.cell; have fx := Bx.free; have lx_W9 := Bx.lt; have kaW9 : Acc w W9 := (by refine Acc.call ?_ hb; (repeat' (first | (with_reducible first | assumption | exact Acc.refl _ | refine Acc.drew ?_ | refine Acc.drewN ?_ _ | refine Acc.alloc ?_ _ | refine Acc.setCell ?_ ?_ _) | (refine leB ?_; omega)))); clear hb))
                    all_goals
                      obtain rfl : o = none := HE.out.symm.trans (by unfold rowT tT; simp only [P0.out, P1.out, P2.out, P3.out]; simp [sO])
                      go_wp2_with fail
                      refine bodyPost_ret (v := .tuple #[.agg #[.int .i64 0, .int .i64 0, .int .i64 0], .iface 113 (.agg #[.string s])]) (by simp [results, Tryd.results43, go_sem, *]) rfl ⟨fun _ _ _ h => (by cases h), fun _ => ⟨_, rfl⟩, ?_⟩
                      show Acc w _
                      (repeat' (first | (with_reducible first | assumption | exact Acc.refl _ | refine Acc.drew ?_ | refine Acc.drewN ?_ _ | refine Acc.alloc ?_ _ | refine Acc.setCell ?_ ?_ _) | (refine leB ?_; omega)))
                  | some v =>
                    obtain ⟨ps1, ps2, ps3⟩ := v
                    have D := Lib.hid fun w => (T3.out w).mono fun e w' h => And.intro (h.1 _ _ _ rfl) h.2.2
                    go_cut [9, 10] (fun s9 s10 wx => ∃ pv1x : Nat, s9 = .pointer (some ⟨pv1x, 0, none⟩) ∧ s10 = .nilIface ∧ Blk wx (pv1x) [.int .i64 ps1, .int .i64 ps2, .int .i64 ps3] ∧ Blk wx (bt) VT ∧ Blk wx (bo) [.int .i64 a1, .int .i64 a2, .int .i64 a3, .int .i64 b1, .int .i64 b2, .int .i64 b3, .int .i64 c1, .int .i64 c2, .int .i64 c3, .int .i64 d1, .int .i64 d2, .int .i64 d3] ∧ Blk wx (w.heap.size) [.int .i64 0, .int .i64 0, .int .i64 0] ∧ Blk wx (w.heap.size + 1) [.int .i64 sb1, .int .i64 sb2, .int .i64 sb3] ∧ bt < pv1x ∧ bo < pv1x ∧ w.heap.size < pv1x ∧ w.heap.size + 1 < pv1x ∧ W3.heap.size < pv1x ∧ Acc w wx)
                    case first =>
                      go_region_held3 (fun w' => (∀ k, w'.cell? ⟨bo, k, none⟩ = [.int .i64 a1, .int .i64 a2, .int .i64 a3, .int .i64 b1, .int .i64 b2, .int .i64 b3, .int .i64 c1, .int .i64 c2, .int .i64 c3, .int .i64 d1, .int .i64 d2, .int .i64 d3][k]?) ∧ (∀ k, w'.cell? ⟨W3.heap.size, k, none⟩ = [.int .i64 m15a, .int .i64 m15b, .int .i64 m15c][k]?))
                        (((try dsimp only); (refine ⟨Blk.cell ?_, Blk.cell ?_⟩ <;> (repeat' (first | (with_reducible first | assumption | refine Blk.drew ?_ | refine Blk.drewN ?_ _ | apply Blk.set | (refine Blk.new ?_; focus (first | rfl | (simp; done))) | refine Blk.alloc ?_ _ | refine Blk.other ?_ ?_ _) | exact eqL rfl | (refine neB ?_; omega))))))
                        (first
                          | (go_at_call 60; refine (D.out _).mono ?_; rintro e W9 ⟨rfl, hb⟩; (try (refine with_fact (A := Blk W9 (W3.heap.size + 1) [.int .i64 0, .int .i64 0, .int .i64 0]) ?_ ?_; (focus (refine Blk.keep hb ?_; (repeat' (first | (with_reducible first | assumption | refine Blk.drew ?_ | refine Blk.drewN ?_ _ | apply Blk.set | (refine Blk.new ?_; focus (first | rfl | (simp; done))) | refine Blk.alloc ?_ _ | refine Blk.other ?_ ?_ _) | exact eqL rfl | (refine neB ?_; omega))); done)); intro Bz0; have cz0 := Bz0.cell; have fz0 := Bz0.free; have lz0 := Bz0.lt)); (try (refine with_fact (A := Blk W9 (W3.heap.size + 1 + 1) [.int .i64 0, .int .i64 0, .int .i64 0]) ?_ ?_; (focus (refine Blk.keep hb ?_; (repeat' (first | (with_reducible first | assumption | refine Blk.drew ?_ | refine Blk.drewN ?_ _ | apply Blk.set | (refine Blk.new ?_; focus (first | rfl | (simp; done))) | refine Blk.alloc ?_ _ | refine Blk.other ?_ ?_ _) | exact eqL rfl | (refine neB ?_; omega))); done)); intro Bz1; have cz1 := Bz1.cell; have fz1 := Bz1.free; have lz1 := Bz1.lt)); have Bt : Blk W9 (bt) VT := Blk.keep hb (by repeat' (first | (with_reducible first | assumption | refine Blk.drew ?_ | refine Blk.drewN ?_ _ | apply Blk.set | (refine Blk.new ?_; focus (first | rfl | (simp; done))) | refine Blk.alloc ?_ _ | refine Blk.other ?_ ?_ _) | exact eqL rfl | (refine neB ?_; omega))); have Bo : Blk W9 (bo) [.int .i64 a1, .int .i64 a2, .int .i64 a3, .int .i64 b1, .int .i64 b2, .int .i64 b3, .int .i64 c1, .int .i64 c2, .int .i64 c3, .int .i64 d1, .int .i64 d2, .int .i64 d3] := Blk.keep hb (by repeat' (first | (with_reducible first | assumption | refine Blk.drew ?_ | refine Blk.drewN ?_ _ | apply Blk.set | (refine Blk.new ?_; focus (first | rfl | (simp; done))) | refine Blk.alloc ?_ _ | refine Blk.other ?_ ?_ _) | exact eqL rfl | (refine neB ?_; omega))); have Br : Blk W9 (w.heap.size) [.int .i64 0, .int .i64 0, .int .i64 0] := Blk.keep hb (by repeat' (first | (with_reducible first | assumption | refine Blk.drew ?_ | refine Blk.drewN ?_ _ | apply Blk.set | (refine Blk.new ?_; focus (first | rfl | (simp; done))) | refine Blk.alloc ?_ _ | refine Blk.other ?_ ?_ _) | exact eqL rfl | (refine neB ?_; omega))); have Bs : Blk W9 (w.heap.size + 1) [.int .i64 sb1, .int .i64 sb2, .int .i64 sb3] := Blk.keep hb (by repeat' (first | (with_reducible first | assumption | refine Blk.drew ?_ | refine Blk.drewN ?_ _ | apply Blk.set | (refine Blk.new ?_; focus (first | rfl | (simp; done))) | refine Blk.alloc ?_ _ | refine Blk.other ?_ ?_ _) | exact eqL rfl | (refine neB ?_; omega))); have Bx : Blk W9 (W3.heap.size) [.int .i64 m15a, .int .i64 m15b, .int .i64 m15c] := Blk.keep hb (by repeat' (first | (with_reducible first | assumption | refine Blk.drew ?_ | refine Blk.drewN ?_ _ | apply Blk.set | (refine Blk.new ?_; focus (first | rfl | (simp; done))) | refine Blk.alloc ?_ _ | refine Blk.other ?_ ?_ _) | exact eqL rfl | (refine neB ?_; omega))); have ct := Bt.cell; have ft := Bt.free; have lt_W9 := Bt.lt; have co := Bo.cell; have fo := Bo.free; have lo_W9 := Bo.lt; have cr := Br.cell; have fr := Br.free; have lr_W9 := Br.lt; have cs := Bs.cell; have fs := Bs.free; have ls_W9 := Bs.lt; have cx := Bx.cell; have fx := Bx.free; have lx_W9 := Bx.lt; have kaW9 : Acc w W9 := (by refine Acc.call ?_ hb; (repeat' (first | (with_reducible first | assumption | exact Acc.refl _ | refine Acc.drew ?_ | refine Acc.drewN ?_ _ | refine Acc.alloc ?_ _ | refine Acc.setCell ?_ ?_ _) | (refine leB ?_; omega)))); clear hb))
                      all_goals
                        go_wp2_with fail
                      all_goals
                        go_meet
                        refine ⟨_, rfl, rfl, ?_⟩
                        and_intros
                        all_goals
                          first
                            | ((repeat' (first | (with_reducible first | assumption | refine Blk.drew ?_ | refine Blk.drewN ?_ _ | apply Blk.set | (refine Blk.new ?_; focus (first | rfl | (simp; done))) | refine Blk.alloc ?_ _ | refine Blk.other ?_ ?_ _) | exact eqL rfl | (refine neB ?_; omega))); done)
                            | ((show Acc w _); (repeat' (first | (with_reducible first | assumption | exact Acc.refl _ | refine Acc.drew ?_ | refine Acc.drewN ?_ _ | refine Acc.alloc ?_ _ | refine Acc.setCell ?_ ?_ _) | (refine leB ?_; omega))); done)
                            | (refine leB ?_; omega)
                    case rest =>
                      obtain ⟨pv1x, rfl, rfl, Bv, Bt, Bo, Br, Bs, low5_0, low5_1, low5_2, low5_3, low5_4, kawc⟩ := hcut
                      have cv := Bv.cell
                      have fv := Bv.free
                      have lv_wc := Bv.lt
                      have ct := Bt.cell
                      have ft := Bt.free
                      have lt_wc := Bt.lt
                      have co := Bo.cell
                      have fo := Bo.free
                      have lo_wc := Bo.lt
                      have cr := Br.cell
                      have fr := Br.free
                      have lr_wc := Br.lt
                      have cs := Bs.cell
                      have fs := Bs.free
                      have ls_wc := Bs.lt
                      go_wp2_with fail
                      have okp := okF_i64 (tT_ok (show tT (m15a, m15b, m15c) (d1, d2, d3) = some (ps1, ps2, ps3) from P3.out))
                      have U := Lib.hid fun w => plus_any sb1 sb2 sb3 ps1 ps2 ps3 w OA.1 OA.2.1 OA.2.2 okp.1 okp.2.1 okp.2.2
                      clear okp OA
                      obtain ⟨oq, hq⟩ : ∃ o, sumF 1 sb1 sb2 sb3 ps1 ps2 ps3 = o := ⟨_, rfl⟩
                      rw [hq] at U
                      have S3 := Lib.hid (show sT (sb1, sb2, sb3) (ps1, ps2, ps3) = oq from hq)
                      clear hq
                      cases oq with
                      | none =>
                        refine (U.out _).mono ?_
                        rintro e W4 ⟨-, h, hb⟩
                        obtain ⟨s, rfl⟩ := h rfl
                        clear h
                        have Bv : Blk W4 (pv1x) [.int .i64 ps1, .int .i64 ps2, .int .i64 ps3] := Blk.keep hb (by repeat' (first | (with_reducible first | assumption | refine Blk.drew ?_ | refine Blk.drewN ?_ _ | apply Blk.set | (refine Blk.new ?_; focus (first | rfl | (simp; done))) | refine Blk.alloc ?_ _ | refine Blk.other ?_ ?_ _) | exact eqL rfl | (refine neB ?_; omega)))
                        have Bt : Blk W4 (bt) VT := Blk.keep hb (by repeat' (first | (with_reducible first | assumption | refine Blk.drew ?_ | refine Blk.drewN ?_ _ | apply Blk.set | (refine Blk.new ?_; focus (first | rfl | (simp; done))) | refine Blk.alloc ?_ _ | refine Blk.other ?_ ?_ _) | exact eqL rfl | (refine neB ?_; omega)))
                        have Bo : Blk W4 (bo) [.int .i64 a1, .int .i64 a2, .int .i64 a3, .int .i64 b1, .int .i64 b2, .int .i64 b3, .int .i64 c1, .int .i64 c2, .int .i64 c3, .int .i64 d1, .int .i64 d2, .int .i64 d3] := Blk.keep hb (by repeat' (first | (with_reducible first | assumption | refine Blk.drew ?_ | refine Blk.drewN ?_ _ | apply Blk.set | (refine Blk.new ?_; focus (first | rfl | (simp; done))) | refine Blk.alloc ?_ _ | refine Blk.other ?_ ?_ _) | exact eqL rfl | (refine neB ?_; omega)))
                        have Br : Blk W4 (w.heap.size) [.int .i64 0, .int .i64 0, .int .i64 0] := Blk.keep hb (by repeat' (first | (with_reducible first | assumption | refine Blk.drew ?_ | refine Blk.drewN ?_ _ | apply Blk.set | (refine Blk.new ?_; focus (first | rfl | (simp; done))) | refine Blk.alloc ?_ _ | refine Blk.other ?_ ?_ _) | exact eqL rfl | (refine neB ?_; omega)))
                        have Bs : Blk W4 (w.heap.size + 1) [.int .i64 sb1, .int .i64 sb2, .int .i64 sb3] := Blk.keep hb (by repeat' (first | (with_reducible first | assumption | refine Blk.drew ?_ | refine Blk.drewN ?_ _ | apply Blk.set | (refine Blk.new ?_; focus (first | rfl | (simp; done))) | refine Blk.alloc ?_ _ | refine Blk.other ?_ ?_ _) | exact eqL rfl | (refine neB ?_; omega)))
                        have cv := Bv.cell
                        have fv := Bv.free
                        have lv_W4 := Bv.lt
                        have ct := Bt.cell
                        have ft := Bt.free
                        have lt_W4 := Bt.lt
                        have co := Bo.cell
                        have fo := Bo.free
                        have lo_W4 := Bo.lt
                        have cr := Br.cell
                        have fr := Br.free
                        have lr_W4 := Br.lt
                        have cs := Bs.cell
                        have fs := Bs.free
                        have ls_W4 := Bs.lt
                        have kaW4 : Acc w W4 := by
                          refine Acc.call ?_ hb
                          (repeat' (first | (with_reducible first | assumption | exact Acc.refl _ | refine Acc.drew ?_ | refine Acc.drewN ?_ _ | refine Acc.alloc ?_ _ | refine Acc.setCell ?_ ?_ _) | (refine leB ?_; omega)))
                        clear hb
                        obtain rfl : o = none := HE.out.symm.trans (by unfold rowT tT; simp only [P0.out, P1.out, P2.out, P3.out]; simp [sO, S1.out, S2.out, S3.out])
                        go_wp2_with fail
                        refine bodyPost_ret (v := .tuple #[.agg #[.int .i64 0, .int .i64 0, .int .i64 0], .iface 113 (.agg #[.string s])]) (by simp [results, Tryd.results43, go_sem, *]) rfl ⟨fun _ _ _ h => (by cases h), fun _ => ⟨_, rfl⟩, ?_⟩
                        show Acc w _
                        (repeat' (first | (with_reducible first | assumption | exact Acc.refl _ | refine Acc.drew ?_ | refine Acc.drewN ?_ _ | refine Acc.alloc ?_ _ | refine Acc.setCell ?_ ?_ _) | (refine leB ?_; omega)))
                      | some v =>
                        obtain ⟨sc1, sc2, sc3⟩ := v
                        have OA := okF_i64 (sT_val S3.out).2.2.1
                        refine (U.out _).mono ?_
                        rintro e W4 ⟨h, -, hb⟩
                        obtain rfl := h _ _ _ rfl
                        clear h
                        have Bv : Blk W4 (pv1x) [.int .i64 ps1, .int .i64 ps2, .int .i64 ps3] := Blk.keep hb (by repeat' (first | (with_reducible first | assumption | refine Blk.drew ?_ | refine Blk.drewN ?_ _ | apply Blk.set | (refine Blk.new ?_; focus (first | rfl | (simp; done))) | refine Blk.alloc ?_ _ | refine Blk.other ?_ ?_ _) | exact eqL rfl | (refine neB ?_; omega)))
                        have Bt : Blk W4 (bt) VT := Blk.keep hb (by repeat' (first | (with_reducible first | assumption | refine Blk.drew ?_ | refine Blk.drewN ?_ _ | apply Blk.set | (refine Blk.new ?_; focus (first | rfl | (simp; done))) | refine Blk.alloc ?_ _ | refine Blk.other ?_ ?_ _) | exact eqL rfl | (refine neB ?_; omega)))
                        have Bo : Blk W4 (bo) [.int .i64 a1, .int .i64 a2, .int .i64 a3, .int .i64 b1, .int .i64 b2, .int .i64 b3, .int .i64 c1, .int .i64 c2, .int .i64 c3, .int .i64 d1, .int .i64 d2, .int .i64 d3] := Blk.keep hb (by repeat' (first | (with_reducible first | assumption | refine Blk.drew ?_ | refine Blk.drewN ?_ _ | apply Blk.set | (refine Blk.new ?_; focus (first | rfl | (simp; done))) | refine Blk.alloc ?_ _ | refine Blk.other ?_ ?_ _) | exact eqL rfl | (refine neB ?_; omega)))
                        have Br : Blk W4 (w.heap.size) [.int .i64 0, .int .i64 0, .int .i64 0] := Blk.keep hb (by repeat' (first | (with_reducible first | assumption | refine Blk.drew ?_ | refine Blk.drewN ?_ _ | apply Blk.set | (refine Blk.new ?_; focus (first | rfl | (simp; done))) | refine Blk.alloc ?_ _ | refine Blk.other ?_ ?_ _) | exact eqL rfl | (refine neB ?_; omega)))
                        have Bs : Blk W4 (w.heap.size + 1) [.int .i64 sb1, .int .i64 sb2, .int .i64 sb3] := Blk.keep hb (by repeat' (first | (with_reducible first | assumption | refine Blk.drew ?_ | refine Blk.drewN ?_ _ | apply Blk.set | (refine Blk.new ?_; focus (first | rfl | (simp; done))) | refine Blk.alloc ?_ _ | refine Blk.other ?_ ?_ _) | exact eqL rfl | (refine neB ?_; omega)))
                        have cv := Bv.cell
                        have fv := Bv.free
                        have lv_W4 := Bv.lt
                        have ct := Bt.cell
                        have ft := Bt.free
                        have lt_W4 := Bt.lt
                        have co := Bo.cell
                        have fo := Bo.free
                        have lo_W4 := Bo.lt
                        have cr := Br.cell
                        have fr := Br.free
                        have lr_W4 := Br.lt
                        have cs := Bs.cell
                        have fs := Bs.free
                        have ls_W4 := Bs.lt
                        have kaW4 : Acc w W4 := by
                          refine Acc.call ?_ hb
                          (repeat' (first | (with_reducible first | assumption | exact Acc.refl _ | refine Acc.drew ?_ | refine Acc.drewN ?_ _ | refine Acc.alloc ?_ _ | refine Acc.setCell ?_ ?_ _) | (refine leB ?_; omega)))
                        clear hb
                        go_wp2_with fail
                        rw [rounds_succ]
                        obtain rfl : o = some (sc1, sc2, sc3) := HE.out.symm.trans (by unfold rowT tT; simp only [P0.out, P1.out, P2.out, P3.out]; simp [sO, S1.out, S2.out, S3.out])
                        go_wp2_with fail
                        refine bodyPost_ret (v := .tuple #[.agg #[.int .i64 sc1, .int .i64 sc2, .int .i64 sc3], .nilIface]) (by simp [results, Tryd.results43, go_sem, *]) rfl ⟨fun _ _ _ h => (by cases h; rfl), fun h => (by cases h), ?_⟩
                        show Acc w _
                        (repeat' (first | (with_reducible first | assumption | exact Acc.refl _ | refine Acc.drew ?_ | refine Acc.drewN ?_ _ | refine Acc.alloc ?_ _ | refine Acc.setCell ?_ ?_ _) | (refine leB ?_; omega)))
end Go.Proofs.YtgmpbdndkjnbfaaDoor
