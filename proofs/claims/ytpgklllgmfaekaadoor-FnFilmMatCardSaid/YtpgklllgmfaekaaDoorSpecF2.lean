/-
  The model: a film's matrix.
-/
import Derived.Test.YtpgklllgmfaekaaDoorSpecF1
import Derived.Test.YtpgklllgmfaekaaDoorSpecM1
namespace Go.Proofs.YtpgklllgmfaekaaDoor
open Go.ChangeShapes Go.WideShapes Go.ChangeAt Go.RowKit
set_option linter.unusedVariables false

set_option linter.unusedSimpArgs false
/-- A told matrix, its letters open. -/
theorem gave12_at (o : Option F4) : ∃ r1 r2 r3 r4 r5 r6 r7 r8 r9 r10 r11 r12 : Int, ∃ k : Bool, (k = true → o = some ((r1, r2, r3), (r4, r5, r6), (r7, r8, r9), (r10, r11, r12))) ∧ (k = false → o = none) ∧ ∀ P f ar w, Calls P f ar w (Gave12 o w) → Calls P f ar w fun e w' => e = .returned (.tuple #[.agg #[.int .i64 r1, .int .i64 r2, .int .i64 r3, .int .i64 r4, .int .i64 r5, .int .i64 r6, .int .i64 r7, .int .i64 r8, .int .i64 r9, .int .i64 r10, .int .i64 r11, .int .i64 r12], .bool k]) ∧ Below w.heap.size w w' := by
  cases o with
  | none => exact ⟨0, 0, 0, 0, 0, 0, 0, 0, 0, 0, 0, 0, false, (fun h => by cases h), (fun _ => rfl), fun P f ar w c => c.mono fun e w' h => ⟨h.2.1 rfl, h.2.2⟩⟩
  | some v =>
    obtain ⟨⟨u1, u2, u3⟩, ⟨u4, u5, u6⟩, ⟨u7, u8, u9⟩, u10, u11, u12⟩ := v
    exact ⟨u1, u2, u3, u4, u5, u6, u7, u8, u9, u10, u11, u12, true, (fun _ => rfl), (fun h => by cases h), fun P f ar w c => c.mono fun e w' h => ⟨h.1 _ _ _ _ _ _ _ _ _ _ _ _ rfl, h.2.2⟩⟩
set_option maxRecDepth 100000 in
set_option maxHeartbeats 16000000 in
theorem specFlMat_any (a : Option Addr) (ls : List L4) (cap : Nat) (w : World) (h : Lys w a ls) (hn : ls.length ≤ 1048576) : Calls Tryd.prog 6 #[.slice a ls.length cap] w (Gave12 (flmM ls) w) := by
  have H := Lib.hid h
  clear h
  obtain ⟨o, E⟩ : ∃ o, flmM ls = o := ⟨_, rfl⟩
  rw [E]
  have HE := Lib.hid E
  clear E
  obtain ⟨v, hv⟩ : ∃ v, okFl ls = v := ⟨_, rfl⟩
  have V := Lib.hid hv
  clear hv
  go_enter Tryd.func6, Tryd.ntmps6
  go_wp2_with fail
  refine (specPhase_0 _).mono ?_
  rintro e W1 ⟨rfl, hb⟩
  have Br : Blk W1 (w.heap.size) [.int .i64 0, .int .i64 0, .int .i64 0, .int .i64 0, .int .i64 0, .int .i64 0, .int .i64 0, .int .i64 0, .int .i64 0, .int .i64 0, .int .i64 0, .int .i64 0] := Blk.keep hb (by repeat' (first | (with_reducible first | assumption | refine Blk.drew ?_ | refine Blk.drewN ?_ _ | apply Blk.set | (refine Blk.new ?_; focus (first | rfl | (simp; done))) | refine Blk.alloc ?_ _ | refine Blk.other ?_ ?_ _) | exact eqL rfl | (refine neB ?_; omega)))
  have cr := Br.cell
  have fr := Br.free
  have lr_W1 := Br.lt
  have kaW1 : Acc w W1 := by
    refine Acc.call ?_ hb
    (repeat' (first | (with_reducible first | assumption | exact Acc.refl _ | refine Acc.drew ?_ | refine Acc.drewN ?_ _ | refine Acc.alloc ?_ _ | refine Acc.setCell ?_ ?_ _) | (refine leB ?_; omega)))
  clear hb
  go_wp2_with fail
  refine (specPhase_0 _).mono ?_
  rintro e W2 ⟨rfl, hb⟩
  have Br : Blk W2 (w.heap.size) [.int .i64 0, .int .i64 0, .int .i64 0, .int .i64 0, .int .i64 0, .int .i64 0, .int .i64 0, .int .i64 0, .int .i64 0, .int .i64 0, .int .i64 0, .int .i64 0] := Blk.keep hb (by repeat' (first | (with_reducible first | assumption | refine Blk.drew ?_ | refine Blk.drewN ?_ _ | apply Blk.set | (refine Blk.new ?_; focus (first | rfl | (simp; done))) | refine Blk.alloc ?_ _ | refine Blk.other ?_ ?_ _) | exact eqL rfl | (refine neB ?_; omega)))
  have cr := Br.cell
  have fr := Br.free
  have lr_W2 := Br.lt
  have kaW2 : Acc w W2 := by
    refine Acc.call ?_ hb
    (repeat' (first | (with_reducible first | assumption | exact Acc.refl _ | refine Acc.drew ?_ | refine Acc.drewN ?_ _ | refine Acc.alloc ?_ _ | refine Acc.setCell ?_ ?_ _) | (refine leB ?_; omega)))
  clear hb
  go_wp2_with fail
  refine (specOne_any 1 0 1 1 0 1 _).mono ?_
  rintro e W3 ⟨rfl, hb⟩
  have Br : Blk W3 (w.heap.size) [.int .i64 0, .int .i64 0, .int .i64 0, .int .i64 0, .int .i64 0, .int .i64 0, .int .i64 0, .int .i64 0, .int .i64 0, .int .i64 0, .int .i64 0, .int .i64 0] := Blk.keep hb (by repeat' (first | (with_reducible first | assumption | refine Blk.drew ?_ | refine Blk.drewN ?_ _ | apply Blk.set | (refine Blk.new ?_; focus (first | rfl | (simp; done))) | refine Blk.alloc ?_ _ | refine Blk.other ?_ ?_ _) | exact eqL rfl | (refine neB ?_; omega)))
  have cr := Br.cell
  have fr := Br.free
  have lr_W3 := Br.lt
  have kaW3 : Acc w W3 := by
    refine Acc.call ?_ hb
    (repeat' (first | (with_reducible first | assumption | exact Acc.refl _ | refine Acc.drew ?_ | refine Acc.drewN ?_ _ | refine Acc.alloc ?_ _ | refine Acc.setCell ?_ ?_ _) | (refine leB ?_; omega)))
  clear hb
  go_wp2_with fail
  refine (valid_at V.out (specFlValid_any a ls cap _ (H.out.keep (show Acc w _ by repeat' (first | (with_reducible first | assumption | exact Acc.refl _ | refine Acc.drew ?_ | refine Acc.drewN ?_ _ | refine Acc.alloc ?_ _ | refine Acc.setCell ?_ ?_ _) | (refine leB ?_; omega)))) hn)).mono ?_
  rintro e W4 ⟨rfl, hb⟩
  obtain ⟨Br, Bo⟩ : Blk W4 (w.heap.size) [.int .i64 0, .int .i64 0, .int .i64 0, .int .i64 0, .int .i64 0, .int .i64 0, .int .i64 0, .int .i64 0, .int .i64 0, .int .i64 0, .int .i64 0, .int .i64 0] ∧ Blk W4 (W3.heap.size) [.int .i64 1, .int .i64 0, .int .i64 1, .int .i64 0, .int .i64 0, .int .i64 1, .int .i64 0, .int .i64 0, .int .i64 1, .int .i64 1, .int .i64 0, .int .i64 1] := by
    refine ⟨?_, ?_⟩ <;> refine Blk.keep hb ?_ <;> (repeat' (first | (with_reducible first | assumption | refine Blk.drew ?_ | refine Blk.drewN ?_ _ | apply Blk.set | (refine Blk.new ?_; focus (first | rfl | (simp; done))) | refine Blk.alloc ?_ _ | refine Blk.other ?_ ?_ _) | exact eqL rfl | (refine neB ?_; omega)))
  have cr := Br.cell
  have fr := Br.free
  have lr_W4 := Br.lt
  have co := Bo.cell
  have fo := Bo.free
  have lo_W4 := Bo.lt
  have kaW4 : Acc w W4 := by
    refine Acc.call ?_ hb
    (repeat' (first | (with_reducible first | assumption | exact Acc.refl _ | refine Acc.drew ?_ | refine Acc.drewN ?_ _ | refine Acc.alloc ?_ _ | refine Acc.setCell ?_ ?_ _) | (refine leB ?_; omega)))
  clear hb
  cases v with
  | false =>
    obtain rfl : o = none := HE.out.symm.trans (by unfold flmM; rw [V.out]; rfl)
    go_wp2_with fail
    refine bodyPost_ret (v := .tuple #[.agg #[.int .i64 0, .int .i64 0, .int .i64 0, .int .i64 0, .int .i64 0, .int .i64 0, .int .i64 0, .int .i64 0, .int .i64 0, .int .i64 0, .int .i64 0, .int .i64 0], .bool false]) (by simp [results, Tryd.results6, go_sem, *]) rfl ⟨fun _ _ _ _ _ _ _ _ _ _ _ _ h => (by cases h), fun _ => rfl, ?_⟩
    show Acc w _
    (repeat' (first | (with_reducible first | assumption | exact Acc.refl _ | refine Acc.drew ?_ | refine Acc.drewN ?_ _ | refine Acc.alloc ?_ _ | refine Acc.setCell ?_ ?_ _) | (refine leB ?_; omega)))
  | true =>
    have HO : RowKit.Hid (mulsM oneM ls = o) := Lib.hid (by have e := HE.out; unfold flmM at e; rw [V.out] at e; exact e)
    clear HE
    go_wp2_with fail
    obtain ⟨ob, hob⟩ : ∃ b, b = W3.heap.size := ⟨_, rfl⟩
    rw [← hob] at Bo co fo lo_W4 ⊢
    have hwo : w.heap.size + 1 ≤ ob := by rw [hob]; omega
    clear hob
    go_loopw [5] (fun i wr => ∃ (k : Nat) (A : F4), i = .int .i64 k ∧ k ≤ ls.length ∧ Acc w wr ∧ Blk wr (w.heap.size) [.int .i64 0, .int .i64 0, .int .i64 0, .int .i64 0, .int .i64 0, .int .i64 0, .int .i64 0, .int .i64 0, .int .i64 0, .int .i64 0, .int .i64 0, .int .i64 0] ∧ Blk wr ob [.int .i64 A.1.1, .int .i64 A.1.2.1, .int .i64 A.1.2.2, .int .i64 A.2.1.1, .int .i64 A.2.1.2.1, .int .i64 A.2.1.2.2, .int .i64 A.2.2.1.1, .int .i64 A.2.2.1.2.1, .int .i64 A.2.2.1.2.2, .int .i64 A.2.2.2.1, .int .i64 A.2.2.2.2.1, .int .i64 A.2.2.2.2.2] ∧ mulsM A (ls.drop k) = o) (fun i _ => ls.length - (intOf i).toNat)
    case atStart => exact ⟨0, oneM, rfl, Nat.zero_le _, ‹Acc w _›, ‹Blk _ (w.heap.size) _›, ‹Blk _ ob _›, by rw [List.drop_zero]; exact HO.out⟩
    case round =>
      obtain ⟨k, A, rfl, hk, ka, Br, Bo, hm⟩ := hrel
      obtain ⟨⟨a1, a2, a3⟩, ⟨a4, a5, a6⟩, ⟨a7, a8, a9⟩, a10, a11, a12⟩ := A
      dsimp only at Bo
      have HX := Lib.hid hm
      clear hm HO
      have cr := Br.cell
      have fr := Br.free
      have lr_wr := Br.lt
      have co := Bo.cell
      have fo := Bo.free
      have lo_wr := Bo.lt
      by_cases hlt : k < ls.length
      ·
        obtain ⟨c, off, rfl, hc, hi, e0, e1, e2, e3⟩ := H.out.at hlt
        have HT : RowKit.Hid (ls.take (k + 1) = ls.take k ++ [ls[k]]) := Lib.hid (by rw [List.take_add_one, List.getElem?_eq_getElem hlt]; rfl)
        have HD : RowKit.Hid (ls.drop k = ls[k] :: ls.drop (k + 1)) := Lib.hid (List.drop_eq_getElem_cons hlt)
        have HM : RowKit.Hid (ls[k] ∈ ls) := Lib.hid (List.getElem_mem hlt)
        generalize ls[k] = x at hi e0 e1 e2 e3 HT HD HM
        obtain ⟨⟨n1, n2, n3⟩, q⟩ := x
        dsimp only at e0 e1 e2 e3
        have HC := Lib.hid fun (W : World) (ka : Acc w W) => And.intro ((ka.cell (p := ⟨c, off + k * 4, none⟩) hc).trans e0) (And.intro ((ka.cell (p := ⟨c, off + k * 4 + 1, none⟩) hc).trans e1) (And.intro ((ka.cell (p := ⟨c, off + k * 4 + 2, none⟩) hc).trans e2) ((ka.cell (p := ⟨c, off + k * 4 + 3, none⟩) hc).trans e3)))
        have hk1 : k + 1 ≤ ls.length := hlt
        have HI := Lib.hid hi
        clear hi e0 e1 e2 e3 hc
        obtain ⟨e0, e1, e2, e3⟩ := HC.out _ ka
        have HQ : RowKit.Hid (q = 0 ∨ q = 1 ∨ q = 2 ∨ q = 3) := Lib.hid (okL_out (okFl_mem V.out HM.out)).2.2
        obtain ⟨b1, b2, b3, b4, b5, b6, b7, b8, b9, b10, b11, b12, kb, hb1, hb2, hbv⟩ := gave12_at (layM ((n1, n2, n3), q))
        obtain ⟨c1, c2, c3, c4, c5, c6, c7, c8, c9, c10, c11, c12, kc, hc1, hc2, hcv⟩ := gave12_at (mulM ((a1, a2, a3), (a4, a5, a6), (a7, a8, a9), (a10, a11, a12)) ((b1, b2, b3), (b4, b5, b6), (b7, b8, b9), (b10, b11, b12)))
        have TB := Lib.hid fun w => hbv _ _ _ w (specLayer_any n1 n2 n3 q HQ.out w)
        have TC := Lib.hid fun w => hcv _ _ _ w (specMTimes_any a1 a2 a3 a4 a5 a6 a7 a8 a9 a10 a11 a12 b1 b2 b3 b4 b5 b6 b7 b8 b9 b10 b11 b12 w)
        have B1 := Lib.hid hb1
        have B2 := Lib.hid hb2
        have C1 := Lib.hid hc1
        have C2 := Lib.hid hc2
        clear hb1 hb2 hbv hc1 hc2 hcv
        go_wp2_with fail
        refine (TB.out _).mono ?_
        rintro e W5 ⟨rfl, hb⟩
        obtain ⟨Br, Bo⟩ : Blk W5 (w.heap.size) [.int .i64 0, .int .i64 0, .int .i64 0, .int .i64 0, .int .i64 0, .int .i64 0, .int .i64 0, .int .i64 0, .int .i64 0, .int .i64 0, .int .i64 0, .int .i64 0] ∧ Blk W5 (ob) [.int .i64 a1, .int .i64 a2, .int .i64 a3, .int .i64 a4, .int .i64 a5, .int .i64 a6, .int .i64 a7, .int .i64 a8, .int .i64 a9, .int .i64 a10, .int .i64 a11, .int .i64 a12] := by
          refine ⟨?_, ?_⟩ <;> refine Blk.keep hb ?_ <;> (repeat' (first | (with_reducible first | assumption | refine Blk.drew ?_ | refine Blk.drewN ?_ _ | apply Blk.set | (refine Blk.new ?_; focus (first | rfl | (simp; done))) | refine Blk.alloc ?_ _ | refine Blk.other ?_ ?_ _) | exact eqL rfl | (refine neB ?_; omega)))
        have cr := Br.cell
        have fr := Br.free
        have lr_W5 := Br.lt
        have co := Bo.cell
        have fo := Bo.free
        have lo_W5 := Bo.lt
        have kaW5 : Acc w W5 := by
          refine Acc.call ?_ hb
          (repeat' (first | (with_reducible first | assumption | exact Acc.refl _ | refine Acc.drew ?_ | refine Acc.drewN ?_ _ | refine Acc.alloc ?_ _ | refine Acc.setCell ?_ ?_ _) | (refine leB ?_; omega)))
        clear hb
        go_wp2_with fail
        refine (TC.out _).mono ?_
        rintro e W6 ⟨rfl, hb⟩
        obtain ⟨Br, Bo, Bm⟩ : Blk W6 (w.heap.size) [.int .i64 0, .int .i64 0, .int .i64 0, .int .i64 0, .int .i64 0, .int .i64 0, .int .i64 0, .int .i64 0, .int .i64 0, .int .i64 0, .int .i64 0, .int .i64 0] ∧ Blk W6 (ob) [.int .i64 a1, .int .i64 a2, .int .i64 a3, .int .i64 a4, .int .i64 a5, .int .i64 a6, .int .i64 a7, .int .i64 a8, .int .i64 a9, .int .i64 a10, .int .i64 a11, .int .i64 a12] ∧ Blk W6 (W5.heap.size) [.int .i64 b1, .int .i64 b2, .int .i64 b3, .int .i64 b4, .int .i64 b5, .int .i64 b6, .int .i64 b7, .int .i64 b8, .int .i64 b9, .int .i64 b10, .int .i64 b11, .int .i64 b12] := by
          refine ⟨?_, ?_, ?_⟩ <;> refine Blk.keep hb ?_ <;> (repeat' (first | (with_reducible first | assumption | refine Blk.drew ?_ | refine Blk.drewN ?_ _ | apply Blk.set | (refine Blk.new ?_; focus (first | rfl | (simp; done))) | refine Blk.alloc ?_ _ | refine Blk.other ?_ ?_ _) | exact eqL rfl | (refine neB ?_; omega)))
        have cr := Br.cell
        have fr := Br.free
        have lr_W6 := Br.lt
        have co := Bo.cell
        have fo := Bo.free
        have lo_W6 := Bo.lt
        have cm := Bm.cell
        have fm := Bm.free
        have lm_W6 := Bm.lt
        have kaW6 : Acc w W6 := by
          refine Acc.call ?_ hb
          (repeat' (first | (with_reducible first | assumption | exact Acc.refl _ | refine Acc.drew ?_ | refine Acc.drewN ?_ _ | refine Acc.alloc ?_ _ | refine Acc.setCell ?_ ?_ _) | (refine leB ?_; omega)))
        clear hb
        cases kb with
        | false =>
          obtain rfl : o = none := HX.out.symm.trans (by rw [HD.out]; unfold mulsM; rw [B2.out rfl]; rfl)
          go_wp2_with fail
          refine bodyPost_ret (v := .tuple #[.agg #[.int .i64 0, .int .i64 0, .int .i64 0, .int .i64 0, .int .i64 0, .int .i64 0, .int .i64 0, .int .i64 0, .int .i64 0, .int .i64 0, .int .i64 0, .int .i64 0], .bool false]) (by simp [results, Tryd.results6, go_sem, *]) rfl ⟨fun _ _ _ _ _ _ _ _ _ _ _ _ h => (by cases h), fun _ => rfl, ?_⟩
          show Acc w _
          (repeat' (first | (with_reducible first | assumption | exact Acc.refl _ | refine Acc.drew ?_ | refine Acc.drewN ?_ _ | refine Acc.alloc ?_ _ | refine Acc.setCell ?_ ?_ _) | (refine leB ?_; omega)))
        | true =>
          cases kc with
          | false =>
            obtain rfl : o = none := HX.out.symm.trans (by rw [HD.out]; unfold mulsM; rw [B1.out rfl, Option.bind_some, C2.out rfl]; rfl)
            go_wp2_with fail
            refine bodyPost_ret (v := .tuple #[.agg #[.int .i64 0, .int .i64 0, .int .i64 0, .int .i64 0, .int .i64 0, .int .i64 0, .int .i64 0, .int .i64 0, .int .i64 0, .int .i64 0, .int .i64 0, .int .i64 0], .bool false]) (by simp [results, Tryd.results6, go_sem, *]) rfl ⟨fun _ _ _ _ _ _ _ _ _ _ _ _ h => (by cases h), fun _ => rfl, ?_⟩
            show Acc w _
            (repeat' (first | (with_reducible first | assumption | exact Acc.refl _ | refine Acc.drew ?_ | refine Acc.drewN ?_ _ | refine Acc.alloc ?_ _ | refine Acc.setCell ?_ ?_ _) | (refine leB ?_; omega)))
          | true =>
            have HY : RowKit.Hid (mulsM ((c1, c2, c3), (c4, c5, c6), (c7, c8, c9), (c10, c11, c12)) (ls.drop (k + 1)) = o) := Lib.hid (by have e := HX.out; rw [HD.out] at e; unfold mulsM at e; rw [B1.out rfl, Option.bind_some, C1.out rfl, Option.bind_some] at e; exact e)
            clear B1 B2 C1 C2
            go_wp2_with fail
            go_roundw
            case rel => exact ⟨k + 1, ((c1, c2, c3), (c4, c5, c6), (c7, c8, c9), (c10, c11, c12)), by go_num, hk1, (by show Acc w _; repeat' (first | (with_reducible first | assumption | exact Acc.refl _ | refine Acc.drew ?_ | refine Acc.drewN ?_ _ | refine Acc.alloc ?_ _ | refine Acc.setCell ?_ ?_ _) | (refine leB ?_; omega))), (by repeat' (first | (with_reducible first | assumption | refine Blk.drew ?_ | refine Blk.drewN ?_ _ | apply Blk.set | (refine Blk.new ?_; focus (first | rfl | (simp; done))) | refine Blk.alloc ?_ _ | refine Blk.other ?_ ?_ _) | exact eqL rfl | (refine neB ?_; omega))), (by repeat' (first | (with_reducible first | assumption | refine Blk.drew ?_ | refine Blk.drewN ?_ _ | apply Blk.set | (refine Blk.new ?_; focus (first | rfl | (simp; done))) | refine Blk.alloc ?_ _ | refine Blk.other ?_ ?_ _) | exact eqL rfl | (refine neB ?_; omega))), HY.out⟩
            case measure => simp [intOf]; omega
      · obtain rfl : k = ls.length := by omega
        obtain rfl : o = some ((a1, a2, a3), (a4, a5, a6), (a7, a8, a9), (a10, a11, a12)) := HX.out.symm.trans (by rw [List.drop_length]; rfl)
        go_wp2_with fail
        refine bodyPost_ret (v := .tuple #[.agg #[.int .i64 a1, .int .i64 a2, .int .i64 a3, .int .i64 a4, .int .i64 a5, .int .i64 a6, .int .i64 a7, .int .i64 a8, .int .i64 a9, .int .i64 a10, .int .i64 a11, .int .i64 a12], .bool true]) (by simp [results, Tryd.results6, go_sem, *]) rfl ⟨fun _ _ _ _ _ _ _ _ _ _ _ _ h => (by cases h; rfl), fun h => (by cases h), ?_⟩
        show Acc w _
        (repeat' (first | (with_reducible first | assumption | exact Acc.refl _ | refine Acc.drew ?_ | refine Acc.drewN ?_ _ | refine Acc.alloc ?_ _ | refine Acc.setCell ?_ ?_ _) | (refine leB ?_; omega)))
end Go.Proofs.YtpgklllgmfaekaaDoor
