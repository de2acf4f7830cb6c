/-
  The model: a fibre's matrix.
-/
import Derived.Test.YtkdkeacfifjjoabGreatDoorSpecG1
import Derived.Test.YtkdkeacfifjjoabGreatDoorSpecF2
import Derived.Test.YtkdkeacfifjjoabGreatDoorSpecM1
import Derived.Test.YtkdkeacfifjjoabGreatDoorSpecM3
import Derived.Test.YtkdkeacfifjjoabGreatDoorSpecM6
namespace Go.Proofs.YtkdkeacfifjjoabGreatDoor
open Go.ChangeShapes Go.WideShapes Go.ChangeAt Go.RowKit
set_option linter.unusedVariables false

set_option linter.unusedSimpArgs false
set_option maxRecDepth 100000 in
set_option maxHeartbeats 16000000 in
theorem specFbMat_any (a : Option Addr) (ls : List L4) (cap : Nat) (w : World) (h : Lys w a ls) (hn : ls.length ≤ 1048576) : Calls Tryz.prog 27 #[.slice a ls.length cap] w (Gave12 (fbM ls) w) := by
  have H := Lib.hid h
  clear h
  obtain ⟨o, E⟩ : ∃ o, fbM ls = o := ⟨_, rfl⟩
  rw [E]
  have HE := Lib.hid E
  clear E
  obtain ⟨v, hv⟩ : ∃ o, okFb ls = o := ⟨_, rfl⟩
  have V := Lib.hid hv
  clear hv
  go_enter Tryz.func27, Tryz.ntmps27
  go_wp2_with fail
  refine (specPhase_0 _).mono ?_
  rintro e W1 ⟨rfl, hb⟩
  have Br : Blk W1 (w.heap.size) [.int .i64 0, .int .i64 0, .int .i64 0, .int .i64 0, .int .i64 0, .int .i64 0, .int .i64 0, .int .i64 0, .int .i64 0, .int .i64 0, .int .i64 0, .int .i64 0] := Blk.keep hb (by repeat' (first | (with_reducible first | assumption | refine Blk.drew ?_ | refine Blk.drewN ?_ _ | apply Blk.set | (refine Blk.new ?_; focus (first | rfl | (simp; done))) | refine Blk.alloc ?_ _ | refine Blk.other ?_ ?_ _) | exact eqL rfl | (refine neB ?_; omega)))
  have cr := Br.cell
  have fr := Br.free
  have lr_W1 := Br.lt
  have kaW1 : Acc w W1 := by
    refine Acc.call ?_ hb
    (repeat' (first | (with_reducible first | assumption | exact Acc.refl _ | refine Acc.drew ?_ | refine Acc.drewN ?_ _ | refine Acc.alloc ?_ _ | refine Acc.setCell ?_ ?_ _) | (refine leB ?_; omega)))
  clear hb
  go_wp2_with fail
  refine (specPhase_0 _).mono ?_
  rintro e W2 ⟨rfl, hb⟩
  have Br : Blk W2 (w.heap.size) [.int .i64 0, .int .i64 0, .int .i64 0, .int .i64 0, .int .i64 0, .int .i64 0, .int .i64 0, .int .i64 0, .int .i64 0, .int .i64 0, .int .i64 0, .int .i64 0] := Blk.keep hb (by repeat' (first | (with_reducible first | assumption | refine Blk.drew ?_ | refine Blk.drewN ?_ _ | apply Blk.set | (refine Blk.new ?_; focus (first | rfl | (simp; done))) | refine Blk.alloc ?_ _ | refine Blk.other ?_ ?_ _) | exact eqL rfl | (refine neB ?_; omega)))
  have cr := Br.cell
  have fr := Br.free
  have lr_W2 := Br.lt
  have kaW2 : Acc w W2 := by
    refine Acc.call ?_ hb
    (repeat' (first | (with_reducible first | assumption | exact Acc.refl _ | refine Acc.drew ?_ | refine Acc.drewN ?_ _ | refine Acc.alloc ?_ _ | refine Acc.setCell ?_ ?_ _) | (refine leB ?_; omega)))
  clear hb
  go_wp2_with fail
  refine (specOne_any 1 0 1 1 0 1 _).mono ?_
  rintro e W3 ⟨rfl, hb⟩
  have Br : Blk W3 (w.heap.size) [.int .i64 0, .int .i64 0, .int .i64 0, .int .i64 0, .int .i64 0, .int .i64 0, .int .i64 0, .int .i64 0, .int .i64 0, .int .i64 0, .int .i64 0, .int .i64 0] := Blk.keep hb (by repeat' (first | (with_reducible first | assumption | refine Blk.drew ?_ | refine Blk.drewN ?_ _ | apply Blk.set | (refine Blk.new ?_; focus (first | rfl | (simp; done))) | refine Blk.alloc ?_ _ | refine Blk.other ?_ ?_ _) | exact eqL rfl | (refine neB ?_; omega)))
  have cr := Br.cell
  have fr := Br.free
  have lr_W3 := Br.lt
  have kaW3 : Acc w W3 := by
    refine Acc.call ?_ hb
    (repeat' (first | (with_reducible first | assumption | exact Acc.refl _ | refine Acc.drew ?_ | refine Acc.drewN ?_ _ | refine Acc.alloc ?_ _ | refine Acc.setCell ?_ ?_ _) | (refine leB ?_; omega)))
  clear hb
  go_wp2_with fail
  refine (valid_at V.out (specFbValid_any a ls cap _ (H.out.keep (show Acc w _ by repeat' (first | (with_reducible first | assumption | exact Acc.refl _ | refine Acc.drew ?_ | refine Acc.drewN ?_ _ | refine Acc.alloc ?_ _ | refine Acc.setCell ?_ ?_ _) | (refine leB ?_; omega)))) hn)).mono ?_
  rintro e W4 ⟨rfl, hb⟩
  have Br : Blk W4 (w.heap.size) [.int .i64 0, .int .i64 0, .int .i64 0, .int .i64 0, .int .i64 0, .int .i64 0, .int .i64 0, .int .i64 0, .int .i64 0, .int .i64 0, .int .i64 0, .int .i64 0] := Blk.keep hb (by repeat' (first | (with_reducible first | assumption | refine Blk.drew ?_ | refine Blk.drewN ?_ _ | apply Blk.set | (refine Blk.new ?_; focus (first | rfl | (simp; done))) | refine Blk.alloc ?_ _ | refine Blk.other ?_ ?_ _) | exact eqL rfl | (refine neB ?_; omega)))
  have Bo : Blk W4 (W3.heap.size) [.int .i64 1, .int .i64 0, .int .i64 1, .int .i64 0, .int .i64 0, .int .i64 1, .int .i64 0, .int .i64 0, .int .i64 1, .int .i64 1, .int .i64 0, .int .i64 1] := Blk.keep hb (by repeat' (first | (with_reducible first | assumption | refine Blk.drew ?_ | refine Blk.drewN ?_ _ | apply Blk.set | (refine Blk.new ?_; focus (first | rfl | (simp; done))) | refine Blk.alloc ?_ _ | refine Blk.other ?_ ?_ _) | exact eqL rfl | (refine neB ?_; omega)))
  have cr := Br.cell
  have fr := Br.free
  have lr_W4 := Br.lt
  have co := Bo.cell
  have fo := Bo.free
  have lo_W4 := Bo.lt
  have kaW4 : Acc w W4 := by
    refine Acc.call ?_ hb
    (repeat' (first | (with_reducible first | assumption | exact Acc.refl _ | refine Acc.drew ?_ | refine Acc.drewN ?_ _ | refine Acc.alloc ?_ _ | refine Acc.setCell ?_ ?_ _) | (refine leB ?_; omega)))
  clear hb
  cases v with
  | false =>
    obtain rfl : o = none := HE.out.symm.trans (fbM_no V.out)
    go_wp2_with fail
    refine bodyPost_ret (v := .tuple #[.agg #[.int .i64 0, .int .i64 0, .int .i64 0, .int .i64 0, .int .i64 0, .int .i64 0, .int .i64 0, .int .i64 0, .int .i64 0, .int .i64 0, .int .i64 0, .int .i64 0], .bool false]) (by simp [results, Tryz.results27, go_sem, *]) rfl ⟨fun _ _ _ _ _ _ _ _ _ _ _ _ h => (by cases h), fun _ => rfl, ?_⟩
    show Acc w _
    (repeat' (first | (with_reducible first | assumption | exact Acc.refl _ | refine Acc.drew ?_ | refine Acc.drewN ?_ _ | refine Acc.alloc ?_ _ | refine Acc.setCell ?_ ?_ _) | (refine leB ?_; omega)))
  | true =>
    have HO : RowKit.Hid (fbF ls (some oneM) = o) := Lib.hid ((fbM_yes V.out).symm.trans HE.out)
    clear HE
    go_wp2_with fail
    obtain ⟨ob, hob⟩ : ∃ b, b = W3.heap.size := ⟨_, rfl⟩
    rw [← hob] at Bo co fo lo_W4 ⊢
    have hwob : w.heap.size + 1 ≤ ob := by rw [hob]; omega
    clear hob
    go_loopw [5] (fun i wr => ∃ (k : Nat) (A : F4), i = .int .i64 k ∧ k ≤ ls.length ∧ Acc w wr ∧ Blk wr (w.heap.size) [.int .i64 0, .int .i64 0, .int .i64 0, .int .i64 0, .int .i64 0, .int .i64 0, .int .i64 0, .int .i64 0, .int .i64 0, .int .i64 0, .int .i64 0, .int .i64 0] ∧ Blk wr ob [.int .i64 A.1.1, .int .i64 A.1.2.1, .int .i64 A.1.2.2, .int .i64 A.2.1.1, .int .i64 A.2.1.2.1, .int .i64 A.2.1.2.2, .int .i64 A.2.2.1.1, .int .i64 A.2.2.1.2.1, .int .i64 A.2.2.1.2.2, .int .i64 A.2.2.2.1, .int .i64 A.2.2.2.2.1, .int .i64 A.2.2.2.2.2] ∧ fbF (ls.take k) (some oneM) = some A) (fun i _ => ls.length - (intOf i).toNat)
    case atStart => exact ⟨0, oneM, rfl, Nat.zero_le _, ‹Acc w _›, ‹Blk _ (w.heap.size) _›, ‹Blk _ ob _›, rfl⟩
    case round =>
      obtain ⟨k, A, rfl, hk, ka, Br, Bo, hm⟩ := hrel
      have HX := Lib.hid hm
      clear hm
      obtain ⟨⟨a1, a2, a3⟩, ⟨a4, a5, a6⟩, ⟨a7, a8, a9⟩, a10, a11, a12⟩ := A
      dsimp only at Bo
      have cr := Br.cell
      have fr := Br.free
      have lr_wr := Br.lt
      have co := Bo.cell
      have fo := Bo.free
      have lo_wr := Bo.lt
      by_cases hlt : k < ls.length
      ·
        obtain ⟨c, off, rfl, hc, hi, e0, e1, e2, e3⟩ := H.out.at hlt
        have HT : RowKit.Hid (ls.take (k + 1) = ls.take k ++ [ls[k]]) := Lib.hid (by rw [List.take_add_one, List.getElem?_eq_getElem hlt]; rfl)
        have HD : RowKit.Hid (ls.drop k = ls[k] :: ls.drop (k + 1)) := Lib.hid (List.drop_eq_getElem_cons hlt)
        have HM : RowKit.Hid (ls[k] ∈ ls) := Lib.hid (List.getElem_mem hlt)
        generalize ls[k] = x at hi e0 e1 e2 e3 HT HD HM
        obtain ⟨⟨n1, n2, n3⟩, q⟩ := x
        dsimp only at e0 e1 e2 e3
        have HC := Lib.hid fun (W : World) (ka : Acc w W) => And.intro ((ka.cell (p := ⟨c, off + k * 4, none⟩) hc).trans e0) (And.intro ((ka.cell (p := ⟨c, off + k * 4 + 1, none⟩) hc).trans e1) (And.intro ((ka.cell (p := ⟨c, off + k * 4 + 2, none⟩) hc).trans e2) ((ka.cell (p := ⟨c, off + k * 4 + 3, none⟩) hc).trans e3)))
        have hk1 : k + 1 ≤ ls.length := hlt
        have HI := Lib.hid hi
        clear hi e0 e1 e2 e3 hc
        obtain ⟨e0, e1, e2, e3⟩ := HC.out _ ka
        have HF : RowKit.Hid (fbF (ls.take (k + 1)) (some oneM) = secM ((n1, n2, n3), q) ((a1, a2, a3), (a4, a5, a6), (a7, a8, a9), (a10, a11, a12))) := Lib.hid (by rw [HT.out, fbF_snoc, HX.out]; rfl)
        clear HX
        obtain ⟨-, -, q0, q1⟩ := okS_out (okFb_mem V.out HM.out)
        obtain ⟨t, rfl⟩ := Int.eq_ofNat_of_zero_le q0
        clear q0
        obtain ⟨p1, p2, p3, p4, p5, p6, p7, p8, p9, p10, p11, p12, kb, hb1, hb2, hbv⟩ := gave12_at (plaM n1 n2 n3)
        have TB := Lib.hid fun w => hbv _ _ _ w (specPla_any n1 n2 n3 w)
        have B1 := Lib.hid hb1
        have B2 := Lib.hid hb2
        clear hb1 hb2 hbv
        have hk0 : (0 : Int) ≤ (k : Int) := by omega
        have hk2 : (k : Int) < (ls.length : Int) := by omega
        have kas : w.heap.size ≤ wr.heap.size := ka.size
        go_upto_region 7 with fail
        go_cut [6, 7] (fun s6 s7 wx => ∃ pp1x : Nat, s6 = .pointer (some ⟨pp1x, 0, none⟩) ∧ s7 = .bool kb ∧ Blk wx (pp1x) [.int .i64 p1, .int .i64 p2, .int .i64 p3, .int .i64 p4, .int .i64 p5, .int .i64 p6, .int .i64 p7, .int .i64 p8, .int .i64 p9, .int .i64 p10, .int .i64 p11, .int .i64 p12] ∧ Blk wx (w.heap.size) [.int .i64 0, .int .i64 0, .int .i64 0, .int .i64 0, .int .i64 0, .int .i64 0, .int .i64 0, .int .i64 0, .int .i64 0, .int .i64 0, .int .i64 0, .int .i64 0] ∧ Blk wx (ob) [.int .i64 a1, .int .i64 a2, .int .i64 a3, .int .i64 a4, .int .i64 a5, .int .i64 a6, .int .i64 a7, .int .i64 a8, .int .i64 a9, .int .i64 a10, .int .i64 a11, .int .i64 a12] ∧ w.heap.size < pp1x ∧ ob < pp1x ∧ Acc w wx)
        case first =>
          go_region_held3 (fun w' => w'.cell? ⟨c, off + k * 4, none⟩ = some (.int .i64 n1) ∧ w'.cell? ⟨c, off + k * 4 + 1, none⟩ = some (.int .i64 n2) ∧ w'.cell? ⟨c, off + k * 4 + 2, none⟩ = some (.int .i64 n3) ∧ w'.cell? ⟨c, off + k * 4 + 3, none⟩ = some (.int .i64 (t : Int)))
            (((try dsimp only); (exact HC.out _ (show Acc w _ by repeat' (first | (with_reducible first | assumption | exact Acc.refl _ | refine Acc.drew ?_ | refine Acc.drewN ?_ _ | refine Acc.alloc ?_ _ | refine Acc.setCell ?_ ?_ _) | (refine leB ?_; omega))))))
            (first
              | (go_at_call 66; refine (TB.out _).mono ?_; rintro e W9 ⟨rfl, hb⟩; (try (refine with_fact (A := Blk W9 (wr.heap.size) [.int .i64 0, .int .i64 0, .int .i64 0, .int .i64 0, .int .i64 0, .int .i64 0, .int .i64 0, .int .i64 0, .int .i64 0, .int .i64 0, .int .i64 0, .int .i64 0]) ?_ ?_; (focus (refine Blk.keep hb ?_; (repeat' (first | (with_reducible first | assumption | refine Blk.drew ?_ | refine Blk.drewN ?_ _ | apply Blk.set | (refine Blk.new ?_; focus (first | rfl | (simp; done))) | refine Blk.alloc ?_ _ | refine Blk.other ?_ ?_ _) | exact eqL rfl | (refine neB ?_; omega))); done)); intro Bz0; have cz0 := Bz0.cell; have fz0 := Bz0.free; have lz0 := Bz0.lt)); have Br : Blk W9 (w.heap.size) [.int .i64 0, .int .i64 0, .int .i64 0, .int .i64 0, .int .i64 0, .int .i64 0, .int .i64 0, .int .i64 0, .int .i64 0, .int .i64 0, .int .i64 0, .int .i64 0] := Blk.keep hb (by repeat' (first | (with_reducible first | assumption | refine Blk.drew ?_ | refine Blk.drewN ?_ _ | apply Blk.set | (refine Blk.new ?_; focus (first | rfl | (simp; done))) | refine Blk.alloc ?_ _ | refine Blk.other ?_ ?_ _) | exact eqL rfl | (refine neB ?_; omega))); have Bo : Blk W9 (ob) [.int .i64 a1, .int .i64 a2, .int .i64 a3, .int .i64 a4, .int .i64 a5, .int .i64 a6, .int .i64 a7, .int .i64 a8, .int .i64 a9, .int .i64 a10, .int .i64 a11, .int .i64 a12] := Blk.keep hb (by repeat' (first | (with_reducible first | assumption | refine Blk.drew ?_ | refine Blk.drewN ?_ _ | apply Blk.set | (refine Blk.new ?_; focus (first | rfl | (simp; done))) | refine Blk.alloc ?_ _ | refine Blk.other ?_ ?_ _) | exact eqL rfl | (refine neB ?_; omega))); have cr := Br.cell; have fr := Br.free; have lr_W9 := Br.lt; have co := Bo.cell; have fo := Bo.free; have lo_W9 := Bo.lt; have kaW9 : Acc w W9 := (by refine Acc.call ?_ hb; (repeat' (first | (with_reducible first | assumption | exact Acc.refl _ | refine Acc.drew ?_ | refine Acc.drewN ?_ _ | refine Acc.alloc ?_ _ | refine Acc.setCell ?_ ?_ _) | (refine leB ?_; omega)))); clear hb))
          all_goals
            go_wp2_with fail
          all_goals
            go_meet
            refine ⟨_, rfl, rfl, ?_⟩
            and_intros
            all_goals
              first
                | ((repeat' (first | (with_reducible first | assumption | refine Blk.drew ?_ | refine Blk.drewN ?_ _ | apply Blk.set | (refine Blk.new ?_; focus (first | rfl | (simp; done))) | refine Blk.alloc ?_ _ | refine Blk.other ?_ ?_ _) | exact eqL rfl | (refine neB ?_; omega))); done)
                | ((show Acc w _); (repeat' (first | (with_reducible first | assumption | exact Acc.refl _ | refine Acc.drew ?_ | refine Acc.drewN ?_ _ | refine Acc.alloc ?_ _ | refine Acc.setCell ?_ ?_ _) | (refine leB ?_; omega))); done)
                | (refine leB ?_; omega)
        case rest =>
          obtain ⟨pp1x, rfl, rfl, Bp, Br, Bo, low2_0, low2_1, kawc⟩ := hcut
          have cp := Bp.cell
          have fp := Bp.free
          have lp_wc := Bp.lt
          have cr := Br.cell
          have fr := Br.free
          have lr_wc := Br.lt
          have co := Bo.cell
          have fo := Bo.free
          have lo_wc := Bo.lt
          cases kb with
          | false =>
            obtain rfl : o = none := HO.out.symm.trans (fbF_take_none (k := k + 1) (HF.out.trans (by unfold secM; rw [B2.out rfl]; rfl)))
            go_wp2_with fail
            refine bodyPost_ret (v := .tuple #[.agg #[.int .i64 0, .int .i64 0, .int .i64 0, .int .i64 0, .int .i64 0, .int .i64 0, .int .i64 0, .int .i64 0, .int .i64 0, .int .i64 0, .int .i64 0, .int .i64 0], .bool false]) (by simp [results, Tryz.results27, go_sem, *]) rfl ⟨fun _ _ _ _ _ _ _ _ _ _ _ _ h => (by cases h), fun _ => rfl, ?_⟩
            show Acc w _
            (repeat' (first | (with_reducible first | assumption | exact Acc.refl _ | refine Acc.drew ?_ | refine Acc.drewN ?_ _ | refine Acc.alloc ?_ _ | refine Acc.setCell ?_ ?_ _) | (refine leB ?_; omega)))
          | true =>
            have HG : RowKit.Hid (fbF (ls.take (k + 1)) (some oneM) = pwM ((p1, p2, p3), (p4, p5, p6), (p7, p8, p9), (p10, p11, p12)) t ((a1, a2, a3), (a4, a5, a6), (a7, a8, a9), (a10, a11, a12))) := Lib.hid (HF.out.trans (by unfold secM; rw [B1.out rfl]; rfl))
            clear HF B1 B2
            go_wp2_with fail
            go_loopw [8] (fun j wr => ∃ (i : Nat) (A : F4), j = .int .i64 i ∧ i ≤ t ∧ Acc w wr ∧ Blk wr (w.heap.size) [.int .i64 0, .int .i64 0, .int .i64 0, .int .i64 0, .int .i64 0, .int .i64 0, .int .i64 0, .int .i64 0, .int .i64 0, .int .i64 0, .int .i64 0, .int .i64 0] ∧ Blk wr ob [.int .i64 A.1.1, .int .i64 A.1.2.1, .int .i64 A.1.2.2, .int .i64 A.2.1.1, .int .i64 A.2.1.2.1, .int .i64 A.2.1.2.2, .int .i64 A.2.2.1.1, .int .i64 A.2.2.1.2.1, .int .i64 A.2.2.1.2.2, .int .i64 A.2.2.2.1, .int .i64 A.2.2.2.2.1, .int .i64 A.2.2.2.2.2] ∧ Blk wr pp1x [.int .i64 p1, .int .i64 p2, .int .i64 p3, .int .i64 p4, .int .i64 p5, .int .i64 p6, .int .i64 p7, .int .i64 p8, .int .i64 p9, .int .i64 p10, .int .i64 p11, .int .i64 p12] ∧ pwM ((p1, p2, p3), (p4, p5, p6), (p7, p8, p9), (p10, p11, p12)) i ((a1, a2, a3), (a4, a5, a6), (a7, a8, a9), (a10, a11, a12)) = some A) (fun j _ => t - (intOf j).toNat)
            case atStart => exact ⟨0, ((a1, a2, a3), (a4, a5, a6), (a7, a8, a9), (a10, a11, a12)), rfl, Nat.zero_le _, ‹Acc w _›, ‹Blk _ (w.heap.size) _›, ‹Blk _ ob _›, ‹Blk _ pp1x _›, rfl⟩
            case round =>
              obtain ⟨i, A, rfl, hi, ka, Br, Bo, Bp, hm⟩ := hrel
              have HX := Lib.hid hm
              clear hm
              obtain ⟨⟨b1, b2, b3⟩, ⟨b4, b5, b6⟩, ⟨b7, b8, b9⟩, b10, b11, b12⟩ := A
              dsimp only at Bo
              obtain ⟨e0, e1, e2, e3⟩ := HC.out _ ka
              have cr := Br.cell
              have fr := Br.free
              have lr_wr := Br.lt
              have co := Bo.cell
              have fo := Bo.free
              have lo_wr := Bo.lt
              have cp := Bp.cell
              have fp := Bp.free
              have lp_wr := Bp.lt
              obtain ⟨c1, c2, c3, c4, c5, c6, c7, c8, c9, c10, c11, c12, kc, hc1, hc2, hcv⟩ := gave12_at (mulM ((p1, p2, p3), (p4, p5, p6), (p7, p8, p9), (p10, p11, p12)) ((b1, b2, b3), (b4, b5, b6), (b7, b8, b9), (b10, b11, b12)))
              have TC := Lib.hid fun w => hcv _ _ _ w (specMTimes_any p1 p2 p3 p4 p5 p6 p7 p8 p9 p10 p11 p12 b1 b2 b3 b4 b5 b6 b7 b8 b9 b10 b11 b12 w)
              have HY : RowKit.Hid (pwM ((p1, p2, p3), (p4, p5, p6), (p7, p8, p9), (p10, p11, p12)) (i + 1) ((a1, a2, a3), (a4, a5, a6), (a7, a8, a9), (a10, a11, a12)) = mulM ((p1, p2, p3), (p4, p5, p6), (p7, p8, p9), (p10, p11, p12)) ((b1, b2, b3), (b4, b5, b6), (b7, b8, b9), (b10, b11, b12))) := Lib.hid (pwM_succ HX.out)
              have C1 := Lib.hid hc1
              have C2 := Lib.hid hc2
              clear hc1 hc2 hcv
              by_cases hlt2 : i < t
              ·
                have hi1 : i + 1 ≤ t := hlt2
                have hi2 : (i : Int) < (t : Int) := by omega
                go_wp2_with fail
                refine (TC.out _).mono ?_
                rintro e W5 ⟨rfl, hb⟩
                have Br : Blk W5 (w.heap.size) [.int .i64 0, .int .i64 0, .int .i64 0, .int .i64 0, .int .i64 0, .int .i64 0, .int .i64 0, .int .i64 0, .int .i64 0, .int .i64 0, .int .i64 0, .int .i64 0] := Blk.keep hb (by repeat' (first | (with_reducible first | assumption | refine Blk.drew ?_ | refine Blk.drewN ?_ _ | apply Blk.set | (refine Blk.new ?_; focus (first | rfl | (simp; done))) | refine Blk.alloc ?_ _ | refine Blk.other ?_ ?_ _) | exact eqL rfl | (refine neB ?_; omega)))
                have Bo : Blk W5 (ob) [.int .i64 b1, .int .i64 b2, .int .i64 b3, .int .i64 b4, .int .i64 b5, .int .i64 b6, .int .i64 b7, .int .i64 b8, .int .i64 b9, .int .i64 b10, .int .i64 b11, .int .i64 b12] := Blk.keep hb (by repeat' (first | (with_reducible first | assumption | refine Blk.drew ?_ | refine Blk.drewN ?_ _ | apply Blk.set | (refine Blk.new ?_; focus (first | rfl | (simp; done))) | refine Blk.alloc ?_ _ | refine Blk.other ?_ ?_ _) | exact eqL rfl | (refine neB ?_; omega)))
                have Bp : Blk W5 (pp1x) [.int .i64 p1, .int .i64 p2, .int .i64 p3, .int .i64 p4, .int .i64 p5, .int .i64 p6, .int .i64 p7, .int .i64 p8, .int .i64 p9, .int .i64 p10, .int .i64 p11, .int .i64 p12] := Blk.keep hb (by repeat' (first | (with_reducible first | assumption | refine Blk.drew ?_ | refine Blk.drewN ?_ _ | apply Blk.set | (refine Blk.new ?_; focus (first | rfl | (simp; done))) | refine Blk.alloc ?_ _ | refine Blk.other ?_ ?_ _) | exact eqL rfl | (refine neB ?_; omega)))
                have cr := Br.cell
                have fr := Br.free
                have lr_W5 := Br.lt
                have co := Bo.cell
                have fo := Bo.free
                have lo_W5 := Bo.lt
                have cp := Bp.cell
                have fp := Bp.free
                have lp_W5 := Bp.lt
                have kaW5 : Acc w W5 := by
                  refine Acc.call ?_ hb
                  (repeat' (first | (with_reducible first | assumption | exact Acc.refl _ | refine Acc.drew ?_ | refine Acc.drewN ?_ _ | refine Acc.alloc ?_ _ | refine Acc.setCell ?_ ?_ _) | (refine leB ?_; omega)))
                clear hb
                cases kc with
                | false =>
                  obtain rfl : o = none := HO.out.symm.trans (fbF_take_none (k := k + 1) (HG.out.trans (pwM_none' (HY.out.trans (C2.out rfl)) hi1)))
                  go_wp2_with fail
                  refine bodyPost_ret (v := .tuple #[.agg #[.int .i64 0, .int .i64 0, .int .i64 0, .int .i64 0, .int .i64 0, .int .i64 0, .int .i64 0, .int .i64 0, .int .i64 0, .int .i64 0, .int .i64 0, .int .i64 0], .bool false]) (by simp [results, Tryz.results27, go_sem, *]) rfl ⟨fun _ _ _ _ _ _ _ _ _ _ _ _ h => (by cases h), fun _ => rfl, ?_⟩
                  show Acc w _
                  (repeat' (first | (with_reducible first | assumption | exact Acc.refl _ | refine Acc.drew ?_ | refine Acc.drewN ?_ _ | refine Acc.alloc ?_ _ | refine Acc.setCell ?_ ?_ _) | (refine leB ?_; omega)))
                | true =>
                  have HZ : RowKit.Hid (pwM ((p1, p2, p3), (p4, p5, p6), (p7, p8, p9), (p10, p11, p12)) (i + 1) ((a1, a2, a3), (a4, a5, a6), (a7, a8, a9), (a10, a11, a12)) = some ((c1, c2, c3), (c4, c5, c6), (c7, c8, c9), (c10, c11, c12))) := Lib.hid (HY.out.trans (C1.out rfl))
                  clear C1 C2
                  go_wp2_with fail
                  go_roundw
                  case rel => exact ⟨i + 1, ((c1, c2, c3), (c4, c5, c6), (c7, c8, c9), (c10, c11, c12)), by go_num, hi1, (by show Acc w _; repeat' (first | (with_reducible first | assumption | exact Acc.refl _ | refine Acc.drew ?_ | refine Acc.drewN ?_ _ | refine Acc.alloc ?_ _ | refine Acc.setCell ?_ ?_ _) | (refine leB ?_; omega))), (by repeat' (first | (with_reducible first | assumption | refine Blk.drew ?_ | refine Blk.drewN ?_ _ | apply Blk.set | (refine Blk.new ?_; focus (first | rfl | (simp; done))) | refine Blk.alloc ?_ _ | refine Blk.other ?_ ?_ _) | exact eqL rfl | (refine neB ?_; omega))), (by repeat' (first | (with_reducible first | assumption | refine Blk.drew ?_ | refine Blk.drewN ?_ _ | apply Blk.set | (refine Blk.new ?_; focus (first | rfl | (simp; done))) | refine Blk.alloc ?_ _ | refine Blk.other ?_ ?_ _) | exact eqL rfl | (refine neB ?_; omega))), (by repeat' (first | (with_reducible first | assumption | refine Blk.drew ?_ | refine Blk.drewN ?_ _ | apply Blk.set | (refine Blk.new ?_; focus (first | rfl | (simp; done))) | refine Blk.alloc ?_ _ | refine Blk.other ?_ ?_ _) | exact eqL rfl | (refine neB ?_; omega))), HZ.out⟩
                  case measure => simp [intOf]; omega
              · obtain rfl : i = t := by omega
                have HZ : RowKit.Hid (fbF (ls.take (k + 1)) (some oneM) = some ((b1, b2, b3), (b4, b5, b6), (b7, b8, b9), (b10, b11, b12))) := Lib.hid (HG.out.trans HX.out)
                clear HX HY TC C1 C2
                have hi2 : ¬ (i : Int) < (i : Int) := by omega
                go_wp2_with fail
                go_roundw
                case rel => exact ⟨k + 1, ((b1, b2, b3), (b4, b5, b6), (b7, b8, b9), (b10, b11, b12)), by go_num, hk1, (by show Acc w _; repeat' (first | (with_reducible first | assumption | exact Acc.refl _ | refine Acc.drew ?_ | refine Acc.drewN ?_ _ | refine Acc.alloc ?_ _ | refine Acc.setCell ?_ ?_ _) | (refine leB ?_; omega))), (by repeat' (first | (with_reducible first | assumption | refine Blk.drew ?_ | refine Blk.drewN ?_ _ | apply Blk.set | (refine Blk.new ?_; focus (first | rfl | (simp; done))) | refine Blk.alloc ?_ _ | refine Blk.other ?_ ?_ _) | exact eqL rfl | (refine neB ?_; omega))), (by repeat' (first | (with_reducible first | assumption | refine Blk.drew ?_ | refine Blk.drewN ?_ _ | apply Blk.set | (refine Blk.new ?_; focus (first | rfl | (simp; done))) | refine Blk.alloc ?_ _ | refine Blk.other ?_ ?_ _) | exact eqL rfl | (refine neB ?_; omega))), HZ.out⟩
                case measure => simp [intOf]; omega
      · obtain rfl : k = ls.length := by omega
        obtain rfl : o = some ((a1, a2, a3), (a4, a5, a6), (a7, a8, a9), (a10, a11, a12)) := HO.out.symm.trans (by have := HX.out; rwa [List.take_length] at this)
        clear HX
        go_wp2_with fail
        refine bodyPost_ret (v := .tuple #[.agg #[.int .i64 a1, .int .i64 a2, .int .i64 a3, .int .i64 a4, .int .i64 a5, .int .i64 a6, .int .i64 a7, .int .i64 a8, .int .i64 a9, .int .i64 a10, .int .i64 a11, .int .i64 a12], .bool true]) (by simp [results, Tryz.results27, go_sem, *]) rfl ⟨fun _ _ _ _ _ _ _ _ _ _ _ _ h => (by cases h; rfl), fun h => (by cases h), ?_⟩
        show Acc w _
        (repeat' (first | (with_reducible first | assumption | exact Acc.refl _ | refine Acc.drew ?_ | refine Acc.drewN ?_ _ | refine Acc.alloc ?_ _ | refine Acc.setCell ?_ ?_ _) | (refine leB ?_; omega)))
end Go.Proofs.YtkdkeacfifjjoabGreatDoor
