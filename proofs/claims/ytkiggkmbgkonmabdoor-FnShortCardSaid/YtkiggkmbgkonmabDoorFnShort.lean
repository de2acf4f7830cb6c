/-
  The law FnShort.
-/
import Derived.Test.YtkiggkmbgkonmabDoorBShort
import Derived.Test.YtkiggkmbgkonmabDoorImplG18
import Derived.Test.YtkiggkmbgkonmabDoorImplG6
import Derived.Test.YtkiggkmbgkonmabDoorSpecG8
import Derived.Test.YtkiggkmbgkonmabDoorBLet
namespace Go.Proofs.YtkiggkmbgkonmabDoor
open Go.ChangeShapes Go.WideShapes Go.ChangeAt Go.RowKit
set_option linter.unusedVariables false

set_option linter.unusedSimpArgs false
theorem Wr.lys' {g n cap : Nat} {w : World} {a : Option Addr} {ls : List L4} (h : Wr g w (.slice a n cap) ls) : Lys w a ls := by
  obtain ⟨a', cap', e, h⟩ := h.lys
  injection e with e1 e2 e3
  subst e1
  exact h
theorem Wr.open {g : Nat} {w : World} {v : Value} {ls : List L4} (h : Wr g w v ls) : ∃ a cap, v = .slice a ls.length cap := by
  obtain ⟨a, cap, e, -⟩ := h
  exact ⟨a, cap, e⟩
theorem gave12_tell (o : Option F4) : ∃ r1 r2 r3 r4 r5 r6 r7 r8 r9 r10 r11 r12 : Int, ∃ k : Bool, (k = true → o = some ((r1, r2, r3), (r4, r5, r6), (r7, r8, r9), (r10, r11, r12))) ∧ ∀ P f ar w, Calls P f ar w (Gave12 o w) → Calls P f ar w fun e w' => e = .returned (.tuple #[.agg #[.int .i64 r1, .int .i64 r2, .int .i64 r3, .int .i64 r4, .int .i64 r5, .int .i64 r6, .int .i64 r7, .int .i64 r8, .int .i64 r9, .int .i64 r10, .int .i64 r11, .int .i64 r12], .bool k]) ∧ Below w.heap.size w w' := by
  cases o with
  | none => exact ⟨0, 0, 0, 0, 0, 0, 0, 0, 0, 0, 0, 0, false, (fun h => by cases h), fun P f ar w c => c.mono fun e w' h => ⟨h.2.1 rfl, h.2.2⟩⟩
  | some v =>
    obtain ⟨⟨u1, u2, u3⟩, ⟨u4, u5, u6⟩, ⟨u7, u8, u9⟩, u10, u11, u12⟩ := v
    exact ⟨u1, u2, u3, u4, u5, u6, u7, u8, u9, u10, u11, u12, true, (fun _ => rfl), fun P f ar w c => c.mono fun e w' h => ⟨h.1 _ _ _ _ _ _ _ _ _ _ _ _ rfl, h.2.2⟩⟩
theorem short_len {ls : List L4} (h : okFb ls = true) : (shoE ls).reverse.length ≤ ls.length ∧ okFb (shoE ls).reverse = true := by
  have hs := shoE_ok (ls := ls) (fun s hs => okFb_mem h hs)
  have h8 := (okFb_all h).2
  refine ⟨by rw [List.length_reverse]; exact hs.2, ?_⟩
  unfold okFb
  rw [List.length_reverse, decide_eq_true (show (shoE ls).length ≤ 8 by omega), Bool.and_true]
  exact List.all_eq_true.2 (fun x hx => hs.1 x (List.mem_reverse.1 hx))
set_option maxRecDepth 100000 in
set_option maxHeartbeats 16000000 in
theorem fnShort_law (w : World) (hl : Laid w) (s : Option Addr) (len cap : Nat) (h : Code8 w s len cap) :
    Calls Tryd.prog 7 #[.slice s len cap] w (Fine w) := by
  have hm := h.2.1
  have hl' := h.1
  unfold maxLen at hm
  have HL := Lib.hid fun W (k : Acc w W) => hl.acc k
  clear hl
  by_cases hlen : 1048576 < len
  · clear h
    have hlen' : (1048576 : Int) < (len : Int) := by omega
    go_enter Tryd.func7, Tryd.ntmps7
    go_wp2_with fail
    go_ret
    exact ⟨rfl, Below.refl _ _⟩
  have hlen' : ¬ (1048576 : Int) < (len : Int) := by omega
  go_enter Tryd.func7, Tryd.ntmps7
  go_wp2_with fail
  refine (drawShort_any s len cap w h).mono ?_
  rintro e W0 ⟨a, cap0, ls, rfl, hly, hl7, hb⟩
  have kaW0 : Acc w W0 := hb
  have hn : ls.length ≤ 1048576 := by omega
  have H := Lib.hid fun (W : World) (k : Below W0.heap.size W0 W) => hly.keep k
  clear hb h hly
  cases hv : okFb ls with
  | false =>
    have HP := Lib.hid fun (W : World) (l : Lys W a ls) (k : Acc w W) => implFbShort_any a ls cap0 W l hn (HL.out W k)
    have HS := Lib.hid fun (W : World) (l : Lys W a ls) => specFbShort_any a ls cap0 W l hn
    rw [hv] at HP HS
    clear hv
    have kb0 : Acc W0 W0 := Acc.refl _
    go_wp2_with fail
    refine (HP.out _ (H.out _ (show Acc W0 _ by repeat' (first | (with_reducible first | assumption | exact Acc.refl _ | refine Acc.drew ?_ | refine Acc.drewN ?_ _ | refine Acc.alloc ?_ _ | refine Acc.setCell ?_ ?_ _) | (refine leB ?_; omega)))) (show Acc w _ by repeat' (first | (with_reducible first | assumption | exact Acc.refl _ | refine Acc.drew ?_ | refine Acc.drewN ?_ _ | refine Acc.alloc ?_ _ | refine Acc.setCell ?_ ?_ _) | (refine leB ?_; omega)))).mono ?_
    rintro e W1 ⟨v1, g1, rfl, hg1, hw, hb⟩
    obtain ⟨a1, cap1, rfl⟩ := hw.open
    have kbW1 : Acc W0 W1 := Acc.call (show Acc W0 _ by repeat' (first | (with_reducible first | assumption | exact Acc.refl _ | refine Acc.drew ?_ | refine Acc.drewN ?_ _ | refine Acc.alloc ?_ _ | refine Acc.setCell ?_ ?_ _) | (refine leB ?_; omega))) hb
    have kaW1 : Acc w W1 := by
      refine Acc.call ?_ hb
      (repeat' (first | (with_reducible first | assumption | exact Acc.refl _ | refine Acc.drew ?_ | refine Acc.drewN ?_ _ | refine Acc.alloc ?_ _ | refine Acc.setCell ?_ ?_ _) | (refine leB ?_; omega)))
    clear hb
    have ksW1 : w.heap.size ≤ W1.heap.size := kaW1.size
    have kcW1 : Acc W1 W1 := Acc.refl _
    have Rp : RowKit.Hid (Wr g1 W1 (.slice a1 0 cap1) []) := Lib.hid hw
    clear hw
    go_wp2_with fail
    refine (HS.out _ (H.out _ (show Acc W0 _ by repeat' (first | (with_reducible first | assumption | exact Acc.refl _ | refine Acc.drew ?_ | refine Acc.drewN ?_ _ | refine Acc.alloc ?_ _ | refine Acc.setCell ?_ ?_ _) | (refine leB ?_; omega))))).mono ?_
    rintro e W2 ⟨v2, g2, rfl, hg2, hg3, hw, hb⟩
    obtain ⟨a2, cap2, rfl⟩ := hw.open
    have kbW2 : Acc W0 W2 := Acc.call (show Acc W0 _ by repeat' (first | (with_reducible first | assumption | exact Acc.refl _ | refine Acc.drew ?_ | refine Acc.drewN ?_ _ | refine Acc.alloc ?_ _ | refine Acc.setCell ?_ ?_ _) | (refine leB ?_; omega))) hb
    have Rp : RowKit.Hid (Wr g1 W2 (.slice a1 0 cap1) []) := Lib.hid (Wr.keep Rp.out hb)
    have kaW2 : Acc w W2 := by
      refine Acc.call ?_ hb
      (repeat' (first | (with_reducible first | assumption | exact Acc.refl _ | refine Acc.drew ?_ | refine Acc.drewN ?_ _ | refine Acc.alloc ?_ _ | refine Acc.setCell ?_ ?_ _) | (refine leB ?_; omega)))
    clear hb
    have ksW2 : w.heap.size ≤ W2.heap.size := kaW2.size
    have kcW2 : Acc W2 W2 := Acc.refl _
    have Rm : RowKit.Hid (Wr g2 W2 (.slice a2 0 cap2) []) := Lib.hid hw
    clear hw
    go_wp2_with fail
    have L1 := Rp.out.lys'
    have L2 := Rm.out.lys'
    refine (sameFib_any _ _ [] _ _ _ L1 L2 (Nat.zero_le _)).mono ?_
    rintro e W3 ⟨rfl, hb⟩
    have kbW3 : Acc W0 W3 := Acc.call (show Acc W0 _ by repeat' (first | (with_reducible first | assumption | exact Acc.refl _ | refine Acc.drew ?_ | refine Acc.drewN ?_ _ | refine Acc.alloc ?_ _ | refine Acc.setCell ?_ ?_ _) | (refine leB ?_; omega))) hb
    have Rp : RowKit.Hid (Wr g1 W3 (.slice a1 0 cap1) []) := Lib.hid (Wr.keep Rp.out hb)
    have Rm : RowKit.Hid (Wr g2 W3 (.slice a2 0 cap2) []) := Lib.hid (Wr.keep Rm.out hb)
    have kaW3 : Acc w W3 := by
      refine Acc.call ?_ hb
      (repeat' (first | (with_reducible first | assumption | exact Acc.refl _ | refine Acc.drew ?_ | refine Acc.drewN ?_ _ | refine Acc.alloc ?_ _ | refine Acc.setCell ?_ ?_ _) | (refine leB ?_; omega)))
    clear hb
    have ksW3 : w.heap.size ≤ W3.heap.size := kaW3.size
    have kcW3 : Acc W3 W3 := Acc.refl _
    clear L1 L2
    go_wp2_with fail
    have L1 := Rp.out.lys'
    have L2 := Rm.out.lys'
    refine (sameFib_any _ _ [] _ _ _ L1 L2 (Nat.zero_le _)).mono ?_
    rintro e W4 ⟨rfl, hb⟩
    have kbW4 : Acc W0 W4 := Acc.call (show Acc W0 _ by repeat' (first | (with_reducible first | assumption | exact Acc.refl _ | refine Acc.drew ?_ | refine Acc.drewN ?_ _ | refine Acc.alloc ?_ _ | refine Acc.setCell ?_ ?_ _) | (refine leB ?_; omega))) hb
    have Rp : RowKit.Hid (Wr g1 W4 (.slice a1 0 cap1) []) := Lib.hid (Wr.keep Rp.out hb)
    have Rm : RowKit.Hid (Wr g2 W4 (.slice a2 0 cap2) []) := Lib.hid (Wr.keep Rm.out hb)
    have kaW4 : Acc w W4 := by
      refine Acc.call ?_ hb
      (repeat' (first | (with_reducible first | assumption | exact Acc.refl _ | refine Acc.drew ?_ | refine Acc.drewN ?_ _ | refine Acc.alloc ?_ _ | refine Acc.setCell ?_ ?_ _) | (refine leB ?_; omega)))
    clear hb
    have ksW4 : w.heap.size ≤ W4.heap.size := kaW4.size
    have kcW4 : Acc W4 W4 := Acc.refl _
    clear L1 L2
    go_wp2_with fail
    go_ret
    refine ⟨rfl, ?_⟩
    show Acc w _
    (repeat' (first | (with_reducible first | assumption | exact Acc.refl _ | refine Acc.drew ?_ | refine Acc.drewN ?_ _ | refine Acc.alloc ?_ _ | refine Acc.setCell ?_ ?_ _) | (refine leB ?_; omega)))
  | true =>
    obtain ⟨hle, hok⟩ := short_len hv
    have hid := shoE_idem ls
    have HP := Lib.hid fun (W : World) (l : Lys W a ls) (k : Acc w W) => implFbShort_any a ls cap0 W l hn (HL.out W k)
    have HS := Lib.hid fun (W : World) (l : Lys W a ls) => specFbShort_any a ls cap0 W l hn
    rw [hv, if_pos rfl] at HP HS
    have HM := Lib.hid (fun A B (ha : fbM ls = some A) (hb : fbM (shoE ls).reverse = some B) => short_mat ha hb)
    clear hv
    obtain ⟨RS, hRS⟩ : ∃ RS, (shoE ls).reverse = RS := ⟨_, rfl⟩
    have h2 : (shoE RS).reverse = RS := by rw [← hRS, hid]
    rw [hRS] at HP HS HM hok hle
    clear hRS hid
    have hr8 : RS.length ≤ 1048576 := by omega
    have HQ := Lib.hid fun a' cap' (W : World) (l : Lys W a' RS) (k : Acc w W) => implFbShort_any a' RS cap' W l hr8 (HL.out W k)
    rw [hok, if_pos rfl, h2] at HQ
    clear h2
    obtain ⟨r1, r2, r3, r4, r5, r6, r7, r8, r9, r10, r11, r12, qa, hA, gA⟩ := gave12_tell (fbM ls)
    obtain ⟨s1, s2, s3, s4, s5, s6, s7, s8, s9, s10, s11, s12, qb, hB, gB⟩ := gave12_tell (fbM RS)
    have TA := Lib.hid fun (W : World) (l : Lys W a ls) (k : Acc w W) => gA _ _ _ W (implFbMat_any a ls cap0 W l hn (HL.out W k))
    have TB := Lib.hid fun a' cap' (W : World) (l : Lys W a' RS) (k : Acc w W) => gB _ _ _ W (implFbMat_any a' RS cap' W l hr8 (HL.out W k))
    have HAB := Lib.hid fun ea eb => HM.out _ _ (hA ea) (hB eb)
    clear hA hB gA gB HM
    have kb0 : Acc W0 W0 := Acc.refl _
    go_wp2_with fail
    refine (HP.out _ (H.out _ (show Acc W0 _ by repeat' (first | (with_reducible first | assumption | exact Acc.refl _ | refine Acc.drew ?_ | refine Acc.drewN ?_ _ | refine Acc.alloc ?_ _ | refine Acc.setCell ?_ ?_ _) | (refine leB ?_; omega)))) (show Acc w _ by repeat' (first | (with_reducible first | assumption | exact Acc.refl _ | refine Acc.drew ?_ | refine Acc.drewN ?_ _ | refine Acc.alloc ?_ _ | refine Acc.setCell ?_ ?_ _) | (refine leB ?_; omega)))).mono ?_
    rintro e W1 ⟨v1, g1, rfl, hg1, hw, hb⟩
    obtain ⟨a1, cap1, rfl⟩ := hw.open
    have kbW1 : Acc W0 W1 := Acc.call (show Acc W0 _ by repeat' (first | (with_reducible first | assumption | exact Acc.refl _ | refine Acc.drew ?_ | refine Acc.drewN ?_ _ | refine Acc.alloc ?_ _ | refine Acc.setCell ?_ ?_ _) | (refine leB ?_; omega))) hb
    have kaW1 : Acc w W1 := by
      refine Acc.call ?_ hb
      (repeat' (first | (with_reducible first | assumption | exact Acc.refl _ | refine Acc.drew ?_ | refine Acc.drewN ?_ _ | refine Acc.alloc ?_ _ | refine Acc.setCell ?_ ?_ _) | (refine leB ?_; omega)))
    clear hb
    have ksW1 : w.heap.size ≤ W1.heap.size := kaW1.size
    have kcW1 : Acc W1 W1 := Acc.refl _
    have Rp : RowKit.Hid (Wr g1 W1 (.slice a1 RS.length cap1) RS) := Lib.hid hw
    clear hw
    go_wp2_with fail
    refine (HS.out _ (H.out _ (show Acc W0 _ by repeat' (first | (with_reducible first | assumption | exact Acc.refl _ | refine Acc.drew ?_ | refine Acc.drewN ?_ _ | refine Acc.alloc ?_ _ | refine Acc.setCell ?_ ?_ _) | (refine leB ?_; omega))))).mono ?_
    rintro e W2 ⟨v2, g2, rfl, hg2, hg3, hw, hb⟩
    obtain ⟨a2, cap2, rfl⟩ := hw.open
    have kbW2 : Acc W0 W2 := Acc.call (show Acc W0 _ by repeat' (first | (with_reducible first | assumption | exact Acc.refl _ | refine Acc.drew ?_ | refine Acc.drewN ?_ _ | refine Acc.alloc ?_ _ | refine Acc.setCell ?_ ?_ _) | (refine leB ?_; omega))) hb
    have Rp : RowKit.Hid (Wr g1 W2 (.slice a1 RS.length cap1) RS) := Lib.hid (Wr.keep Rp.out hb)
    have kaW2 : Acc w W2 := by
      refine Acc.call ?_ hb
      (repeat' (first | (with_reducible first | assumption | exact Acc.refl _ | refine Acc.drew ?_ | refine Acc.drewN ?_ _ | refine Acc.alloc ?_ _ | refine Acc.setCell ?_ ?_ _) | (refine leB ?_; omega)))
    clear hb
    have ksW2 : w.heap.size ≤ W2.heap.size := kaW2.size
    have kcW2 : Acc W2 W2 := Acc.refl _
    have Rm : RowKit.Hid (Wr g2 W2 (.slice a2 RS.length cap2) RS) := Lib.hid hw
    clear hw
    go_wp2_with fail
    have L1 := Rp.out.lys'
    have L2 := Rm.out.lys'
    refine (sameFib_any _ _ RS _ _ _ L1 L2 (hr8)).mono ?_
    rintro e W3 ⟨rfl, hb⟩
    have kbW3 : Acc W0 W3 := Acc.call (show Acc W0 _ by repeat' (first | (with_reducible first | assumption | exact Acc.refl _ | refine Acc.drew ?_ | refine Acc.drewN ?_ _ | refine Acc.alloc ?_ _ | refine Acc.setCell ?_ ?_ _) | (refine leB ?_; omega))) hb
    have Rp : RowKit.Hid (Wr g1 W3 (.slice a1 RS.length cap1) RS) := Lib.hid (Wr.keep Rp.out hb)
    have Rm : RowKit.Hid (Wr g2 W3 (.slice a2 RS.length cap2) RS) := Lib.hid (Wr.keep Rm.out hb)
    have kaW3 : Acc w W3 := by
      refine Acc.call ?_ hb
      (repeat' (first | (with_reducible first | assumption | exact Acc.refl _ | refine Acc.drew ?_ | refine Acc.drewN ?_ _ | refine Acc.alloc ?_ _ | refine Acc.setCell ?_ ?_ _) | (refine leB ?_; omega)))
    clear hb
    have ksW3 : w.heap.size ≤ W3.heap.size := kaW3.size
    have kcW3 : Acc W3 W3 := Acc.refl _
    clear L1 L2
    go_wp2_with fail
    refine (HQ.out _ _ _ Rp.out.lys' (show Acc w _ by repeat' (first | (with_reducible first | assumption | exact Acc.refl _ | refine Acc.drew ?_ | refine Acc.drewN ?_ _ | refine Acc.alloc ?_ _ | refine Acc.setCell ?_ ?_ _) | (refine leB ?_; omega)))).mono ?_
    rintro e W4 ⟨v3, g3, rfl, hg4, hw, hb⟩
    obtain ⟨a3, cap3, rfl⟩ := hw.open
    have kbW4 : Acc W0 W4 := Acc.call (show Acc W0 _ by repeat' (first | (with_reducible first | assumption | exact Acc.refl _ | refine Acc.drew ?_ | refine Acc.drewN ?_ _ | refine Acc.alloc ?_ _ | refine Acc.setCell ?_ ?_ _) | (refine leB ?_; omega))) hb
    have Rp : RowKit.Hid (Wr g1 W4 (.slice a1 RS.length cap1) RS) := Lib.hid (Wr.keep Rp.out hb)
    have Rm : RowKit.Hid (Wr g2 W4 (.slice a2 RS.length cap2) RS) := Lib.hid (Wr.keep Rm.out hb)
    have kaW4 : Acc w W4 := by
      refine Acc.call ?_ hb
      (repeat' (first | (with_reducible first | assumption | exact Acc.refl _ | refine Acc.drew ?_ | refine Acc.drewN ?_ _ | refine Acc.alloc ?_ _ | refine Acc.setCell ?_ ?_ _) | (refine leB ?_; omega)))
    clear hb
    have ksW4 : w.heap.size ≤ W4.heap.size := kaW4.size
    have kcW4 : Acc W4 W4 := Acc.refl _
    have Rx : RowKit.Hid (Wr g3 W4 (.slice a3 RS.length cap3) RS) := Lib.hid hw
    clear hw
    go_wp2_with fail
    refine (TA.out _ (H.out _ (show Acc W0 _ by repeat' (first | (with_reducible first | assumption | exact Acc.refl _ | refine Acc.drew ?_ | refine Acc.drewN ?_ _ | refine Acc.alloc ?_ _ | refine Acc.setCell ?_ ?_ _) | (refine leB ?_; omega)))) (show Acc w _ by repeat' (first | (with_reducible first | assumption | exact Acc.refl _ | refine Acc.drew ?_ | refine Acc.drewN ?_ _ | refine Acc.alloc ?_ _ | refine Acc.setCell ?_ ?_ _) | (refine leB ?_; omega)))).mono ?_
    rintro e W5 ⟨rfl, hb⟩
    have kbW5 : Acc W0 W5 := Acc.call (show Acc W0 _ by repeat' (first | (with_reducible first | assumption | exact Acc.refl _ | refine Acc.drew ?_ | refine Acc.drewN ?_ _ | refine Acc.alloc ?_ _ | refine Acc.setCell ?_ ?_ _) | (refine leB ?_; omega))) hb
    have Rp : RowKit.Hid (Wr g1 W5 (.slice a1 RS.length cap1) RS) := Lib.hid (Wr.keep Rp.out hb)
    have Rm : RowKit.Hid (Wr g2 W5 (.slice a2 RS.length cap2) RS) := Lib.hid (Wr.keep Rm.out hb)
    have Rx : RowKit.Hid (Wr g3 W5 (.slice a3 RS.length cap3) RS) := Lib.hid (Wr.keep Rx.out hb)
    have kaW5 : Acc w W5 := by
      refine Acc.call ?_ hb
      (repeat' (first | (with_reducible first | assumption | exact Acc.refl _ | refine Acc.drew ?_ | refine Acc.drewN ?_ _ | refine Acc.alloc ?_ _ | refine Acc.setCell ?_ ?_ _) | (refine leB ?_; omega)))
    clear hb
    have ksW5 : w.heap.size ≤ W5.heap.size := kaW5.size
    have kcW5 : Acc W5 W5 := Acc.refl _
    go_wp2_with fail
    refine (TB.out _ _ _ (Wr.keep Rp.out (show Acc W5 _ by repeat' (first | (with_reducible first | assumption | exact Acc.refl _ | refine Acc.drew ?_ | refine Acc.alloc ?_ _ | refine Acc.setCell ?_ ?_ _) | (refine leB ?_; omega)))).lys' (show Acc w _ by repeat' (first | (with_reducible first | assumption | exact Acc.refl _ | refine Acc.drew ?_ | refine Acc.drewN ?_ _ | refine Acc.alloc ?_ _ | refine Acc.setCell ?_ ?_ _) | (refine leB ?_; omega)))).mono ?_
    rintro e W6 ⟨rfl, hb⟩
    have kbW6 : Acc W0 W6 := Acc.call (show Acc W0 _ by repeat' (first | (with_reducible first | assumption | exact Acc.refl _ | refine Acc.drew ?_ | refine Acc.drewN ?_ _ | refine Acc.alloc ?_ _ | refine Acc.setCell ?_ ?_ _) | (refine leB ?_; omega))) hb
    have Bm : Blk W6 (W5.heap.size) [.int .i64 r1, .int .i64 r2, .int .i64 r3, .int .i64 r4, .int .i64 r5, .int .i64 r6, .int .i64 r7, .int .i64 r8, .int .i64 r9, .int .i64 r10, .int .i64 r11, .int .i64 r12] := Blk.keep hb (by repeat' (first | (with_reducible first | assumption | refine Blk.drew ?_ | refine Blk.drewN ?_ _ | apply Blk.set | (refine Blk.new ?_; focus (first | rfl | (simp; done))) | refine Blk.alloc ?_ _ | refine Blk.other ?_ ?_ _) | exact eqL rfl | (refine neB ?_; omega)))
    have Rp : RowKit.Hid (Wr g1 W6 (.slice a1 RS.length cap1) RS) := Lib.hid (Wr.keep Rp.out (Acc.call (show Acc W5 _ by repeat' (first | (with_reducible first | assumption | exact Acc.refl _ | refine Acc.drew ?_ | refine Acc.drewN ?_ _ | refine Acc.alloc ?_ _ | refine Acc.setCell ?_ ?_ _) | (refine leB ?_; omega))) hb))
    have Rm : RowKit.Hid (Wr g2 W6 (.slice a2 RS.length cap2) RS) := Lib.hid (Wr.keep Rm.out (Acc.call (show Acc W5 _ by repeat' (first | (with_reducible first | assumption | exact Acc.refl _ | refine Acc.drew ?_ | refine Acc.drewN ?_ _ | refine Acc.alloc ?_ _ | refine Acc.setCell ?_ ?_ _) | (refine leB ?_; omega))) hb))
    have Rx : RowKit.Hid (Wr g3 W6 (.slice a3 RS.length cap3) RS) := Lib.hid (Wr.keep Rx.out (Acc.call (show Acc W5 _ by repeat' (first | (with_reducible first | assumption | exact Acc.refl _ | refine Acc.drew ?_ | refine Acc.drewN ?_ _ | refine Acc.alloc ?_ _ | refine Acc.setCell ?_ ?_ _) | (refine leB ?_; omega))) hb))
    have kaW6 : Acc w W6 := by
      refine Acc.call ?_ hb
      (repeat' (first | (with_reducible first | assumption | exact Acc.refl _ | refine Acc.drew ?_ | refine Acc.drewN ?_ _ | refine Acc.alloc ?_ _ | refine Acc.setCell ?_ ?_ _) | (refine leB ?_; omega)))
    clear hb
    have ksW6 : w.heap.size ≤ W6.heap.size := kaW6.size
    have kcW6 : Acc W6 W6 := Acc.refl _
    have hle2 : (RS.length : Int) ≤ (ls.length : Int) := by omega
    cases qa with
    | false =>
      go_wp2_with fail
      refine (sameFib_any _ _ RS _ _ _ (Wr.lys' (Wr.keep Rx.out (show Acc W6 _ by repeat' (first | (with_reducible first | assumption | exact Acc.refl _ | refine Acc.drew ?_ | refine Acc.alloc ?_ _ | refine Acc.setCell ?_ ?_ _) | (refine leB ?_; omega))))) (Wr.lys' (Wr.keep Rp.out (show Acc W6 _ by repeat' (first | (with_reducible first | assumption | exact Acc.refl _ | refine Acc.drew ?_ | refine Acc.alloc ?_ _ | refine Acc.setCell ?_ ?_ _) | (refine leB ?_; omega))))) hr8).mono ?_
      rintro e W7 ⟨rfl, hb⟩
      have Bm : Blk W7 (W5.heap.size) [.int .i64 r1, .int .i64 r2, .int .i64 r3, .int .i64 r4, .int .i64 r5, .int .i64 r6, .int .i64 r7, .int .i64 r8, .int .i64 r9, .int .i64 r10, .int .i64 r11, .int .i64 r12] := Blk.keep hb (by repeat' (first | (with_reducible first | assumption | refine Blk.drew ?_ | refine Blk.drewN ?_ _ | apply Blk.set | (refine Blk.new ?_; focus (first | rfl | (simp; done))) | refine Blk.alloc ?_ _ | refine Blk.other ?_ ?_ _) | exact eqL rfl | (refine neB ?_; omega)))
      have cm := Bm.cell
      have fm := Bm.free
      have Bn : Blk W7 (W6.heap.size) [.int .i64 s1, .int .i64 s2, .int .i64 s3, .int .i64 s4, .int .i64 s5, .int .i64 s6, .int .i64 s7, .int .i64 s8, .int .i64 s9, .int .i64 s10, .int .i64 s11, .int .i64 s12] := Blk.keep hb (by repeat' (first | (with_reducible first | assumption | refine Blk.drew ?_ | refine Blk.drewN ?_ _ | apply Blk.set | (refine Blk.new ?_; focus (first | rfl | (simp; done))) | refine Blk.alloc ?_ _ | refine Blk.other ?_ ?_ _) | exact eqL rfl | (refine neB ?_; omega)))
      have cn := Bn.cell
      have fn := Bn.free
      have kaW7 : Acc w W7 := by
        refine Acc.call ?_ hb
        (repeat' (first | (with_reducible first | assumption | exact Acc.refl _ | refine Acc.drew ?_ | refine Acc.drewN ?_ _ | refine Acc.alloc ?_ _ | refine Acc.setCell ?_ ?_ _) | (refine leB ?_; omega)))
      clear hb
      go_wp2_with fail
      go_ret
      refine ⟨rfl, ?_⟩
      show Acc w _
      (repeat' (first | (with_reducible first | assumption | exact Acc.refl _ | refine Acc.drew ?_ | refine Acc.drewN ?_ _ | refine Acc.alloc ?_ _ | refine Acc.setCell ?_ ?_ _) | (refine leB ?_; omega)))
    | true =>
      cases qb with
      | false =>
        go_wp2_with fail
        refine (sameFib_any _ _ RS _ _ _ (Wr.lys' (Wr.keep Rx.out (show Acc W6 _ by repeat' (first | (with_reducible first | assumption | exact Acc.refl _ | refine Acc.drew ?_ | refine Acc.alloc ?_ _ | refine Acc.setCell ?_ ?_ _) | (refine leB ?_; omega))))) (Wr.lys' (Wr.keep Rp.out (show Acc W6 _ by repeat' (first | (with_reducible first | assumption | exact Acc.refl _ | refine Acc.drew ?_ | refine Acc.alloc ?_ _ | refine Acc.setCell ?_ ?_ _) | (refine leB ?_; omega))))) hr8).mono ?_
        rintro e W7 ⟨rfl, hb⟩
        have Bm : Blk W7 (W5.heap.size) [.int .i64 r1, .int .i64 r2, .int .i64 r3, .int .i64 r4, .int .i64 r5, .int .i64 r6, .int .i64 r7, .int .i64 r8, .int .i64 r9, .int .i64 r10, .int .i64 r11, .int .i64 r12] := Blk.keep hb (by repeat' (first | (with_reducible first | assumption | refine Blk.drew ?_ | refine Blk.drewN ?_ _ | apply Blk.set | (refine Blk.new ?_; focus (first | rfl | (simp; done))) | refine Blk.alloc ?_ _ | refine Blk.other ?_ ?_ _) | exact eqL rfl | (refine neB ?_; omega)))
        have cm := Bm.cell
        have fm := Bm.free
        have Bn : Blk W7 (W6.heap.size) [.int .i64 s1, .int .i64 s2, .int .i64 s3, .int .i64 s4, .int .i64 s5, .int .i64 s6, .int .i64 s7, .int .i64 s8, .int .i64 s9, .int .i64 s10, .int .i64 s11, .int .i64 s12] := Blk.keep hb (by repeat' (first | (with_reducible first | assumption | refine Blk.drew ?_ | refine Blk.drewN ?_ _ | apply Blk.set | (refine Blk.new ?_; focus (first | rfl | (simp; done))) | refine Blk.alloc ?_ _ | refine Blk.other ?_ ?_ _) | exact eqL rfl | (refine neB ?_; omega)))
        have cn := Bn.cell
        have fn := Bn.free
        have kaW7 : Acc w W7 := by
          refine Acc.call ?_ hb
          (repeat' (first | (with_reducible first | assumption | exact Acc.refl _ | refine Acc.drew ?_ | refine Acc.drewN ?_ _ | refine Acc.alloc ?_ _ | refine Acc.setCell ?_ ?_ _) | (refine leB ?_; omega)))
        clear hb
        go_wp2_with fail
        go_ret
        refine ⟨rfl, ?_⟩
        show Acc w _
        (repeat' (first | (with_reducible first | assumption | exact Acc.refl _ | refine Acc.drew ?_ | refine Acc.drewN ?_ _ | refine Acc.alloc ?_ _ | refine Acc.setCell ?_ ?_ _) | (refine leB ?_; omega)))
      | true =>
        have hAB := HAB.out rfl rfl
        simp only [Prod.mk.injEq] at hAB
        obtain ⟨⟨rfl, rfl, rfl⟩, ⟨rfl, rfl, rfl⟩, ⟨rfl, rfl, rfl⟩, rfl, rfl, rfl⟩ := hAB
        have qm : ∀ w, (Op.equalIn 10000 44 (.agg #[.int .i64 r1, .int .i64 r2, .int .i64 r3, .int .i64 r4, .int .i64 r5, .int .i64 r6, .int .i64 r7, .int .i64 r8, .int .i64 r9, .int .i64 r10, .int .i64 r11, .int .i64 r12]) (.agg #[.int .i64 r1, .int .i64 r2, .int .i64 r3, .int .i64 r4, .int .i64 r5, .int .i64 r6, .int .i64 r7, .int .i64 r8, .int .i64 r9, .int .i64 r10, .int .i64 r11, .int .i64 r12])).run Tryd.prog w = .ok true w := fun w => by have e := eqMat r1 r2 r3 r4 r5 r6 r7 r8 r9 r10 r11 r12 r1 r2 r3 r4 r5 r6 r7 r8 r9 r10 r11 r12 w; rwa [eqM4_true.2 rfl] at e
        go_wp2_with fail
        refine (sameFib_any _ _ RS _ _ _ (Wr.lys' (Wr.keep Rx.out (show Acc W6 _ by repeat' (first | (with_reducible first | assumption | exact Acc.refl _ | refine Acc.drew ?_ | refine Acc.alloc ?_ _ | refine Acc.setCell ?_ ?_ _) | (refine leB ?_; omega))))) (Wr.lys' (Wr.keep Rp.out (show Acc W6 _ by repeat' (first | (with_reducible first | assumption | exact Acc.refl _ | refine Acc.drew ?_ | refine Acc.alloc ?_ _ | refine Acc.setCell ?_ ?_ _) | (refine leB ?_; omega))))) hr8).mono ?_
        rintro e W7 ⟨rfl, hb⟩
        have Bm : Blk W7 (W5.heap.size) [.int .i64 r1, .int .i64 r2, .int .i64 r3, .int .i64 r4, .int .i64 r5, .int .i64 r6, .int .i64 r7, .int .i64 r8, .int .i64 r9, .int .i64 r10, .int .i64 r11, .int .i64 r12] := Blk.keep hb (by repeat' (first | (with_reducible first | assumption | refine Blk.drew ?_ | refine Blk.drewN ?_ _ | apply Blk.set | (refine Blk.new ?_; focus (first | rfl | (simp; done))) | refine Blk.alloc ?_ _ | refine Blk.other ?_ ?_ _) | exact eqL rfl | (refine neB ?_; omega)))
        have cm := Bm.cell
        have fm := Bm.free
        have Bn : Blk W7 (W6.heap.size) [.int .i64 r1, .int .i64 r2, .int .i64 r3, .int .i64 r4, .int .i64 r5, .int .i64 r6, .int .i64 r7, .int .i64 r8, .int .i64 r9, .int .i64 r10, .int .i64 r11, .int .i64 r12] := Blk.keep hb (by repeat' (first | (with_reducible first | assumption | refine Blk.drew ?_ | refine Blk.drewN ?_ _ | apply Blk.set | (refine Blk.new ?_; focus (first | rfl | (simp; done))) | refine Blk.alloc ?_ _ | refine Blk.other ?_ ?_ _) | exact eqL rfl | (refine neB ?_; omega)))
        have cn := Bn.cell
        have fn := Bn.free
        have kaW7 : Acc w W7 := by
          refine Acc.call ?_ hb
          (repeat' (first | (with_reducible first | assumption | exact Acc.refl _ | refine Acc.drew ?_ | refine Acc.drewN ?_ _ | refine Acc.alloc ?_ _ | refine Acc.setCell ?_ ?_ _) | (refine leB ?_; omega)))
        clear hb
        go_wp2_with fail
        go_ret
        refine ⟨rfl, ?_⟩
        show Acc w _
        (repeat' (first | (with_reducible first | assumption | exact Acc.refl _ | refine Acc.drew ?_ | refine Acc.drewN ?_ _ | refine Acc.alloc ?_ _ | refine Acc.setCell ?_ ?_ _) | (refine leB ?_; omega)))
end Go.Proofs.YtkiggkmbgkonmabDoor
