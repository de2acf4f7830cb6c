/-
  The program's fibres: a list's fibre.
-/
import Derived.Test.YtkdkeacfifjjoabGreatDoorImplG1
import Derived.Test.YtkdkeacfifjjoabGreatDoorBFib
namespace Go.Proofs.YtkdkeacfifjjoabGreatDoor
open Go.ChangeShapes Go.WideShapes Go.ChangeAt Go.RowKit
set_option linter.unusedVariables false

set_option linter.unusedSimpArgs false
/-- A fibre told: its links, or an error. -/
def FibOut (ls : List L4) (w : World) (e : Ending) (w' : World) : Prop :=
  (okFb ls = true → ∃ p, e = .returned (.tuple #[.pointer p, .nilIface]) ∧ Fib w.heap.size w'.heap.size w' p ls.reverse) ∧ (okFb ls = false → ∃ s, e = .returned (.tuple #[.pointer none, .iface 142 (.agg #[.string s])])) ∧ Below w.heap.size w w'
set_option maxRecDepth 100000 in
set_option maxHeartbeats 8000000 in
theorem fibreOf_any (a : Option Addr) (ls : List L4) (cap : Nat) (w : World) (h : Lys w a ls) (hn : ls.length ≤ 1048576) : Calls Tryz.prog 61 #[.slice a ls.length cap] w (FibOut ls w) := by
  have H := Lib.hid h
  clear h
  by_cases h8 : ls.length ≤ 8
  ·
    have HO : RowKit.Hid (okFb ls = ls.all okS) := Lib.hid (by unfold okFb; rw [decide_eq_true h8, Bool.and_true])
    have h9 : ¬ (8 : Int) < ls.length := by omega
    go_enter Tryz.func61, Tryz.ntmps61
    go_wp2_with fail
    go_loopw [15, 4] (fun i p wr => ∃ (k : Nat) (f : Option Addr), i = .int .i64 k ∧ p = .pointer f ∧ k ≤ ls.length ∧ Acc w wr ∧ Fib w.heap.size wr.heap.size wr f (ls.take k).reverse ∧ (ls.take k).all okS = true) (fun i _ _ => ls.length - (intOf i).toNat)
    case atStart => exact ⟨0, none, rfl, rfl, Nat.zero_le _, Acc.refl _, rfl, rfl⟩
    case round =>
      obtain ⟨k, f, rfl, rfl, hk, ka, hf, hall⟩ := hrel
      have HA := Lib.hid hall
      have HX := Lib.hid hf
      clear hall hf
      by_cases hlt : k < ls.length
      ·
        obtain ⟨c, off, rfl, hc, hi, e0, e1, e2, e3⟩ := H.out.at hlt
        have HT : RowKit.Hid (ls.take (k + 1) = ls.take k ++ [ls[k]]) := Lib.hid (by rw [List.take_add_one, List.getElem?_eq_getElem hlt]; rfl)
        have HD : RowKit.Hid (ls.drop k = ls[k] :: ls.drop (k + 1)) := Lib.hid (List.drop_eq_getElem_cons hlt)
        have HM : RowKit.Hid (ls[k] ∈ ls) := Lib.hid (List.getElem_mem hlt)
        generalize ls[k] = x at hi e0 e1 e2 e3 HT HD HM
        obtain ⟨⟨n1, n2, n3⟩, q⟩ := x
        dsimp only at e0 e1 e2 e3
        have HC := Lib.hid fun (W : World) (ka : Acc w W) => And.intro ((ka.cell (p := ⟨c, off + k * 4, none⟩) hc).trans e0) (And.intro ((ka.cell (p := ⟨c, off + k * 4 + 1, none⟩) hc).trans e1) (And.intro ((ka.cell (p := ⟨c, off + k * 4 + 2, none⟩) hc).trans e2) ((ka.cell (p := ⟨c, off + k * 4 + 3, none⟩) hc).trans e3)))
        have hk1 : k + 1 ≤ ls.length := hlt
        have HI := Lib.hid hi
        clear hi e0 e1 e2 e3 hc
        obtain ⟨e0, e1, e2, e3⟩ := HC.out _ ka
        have hk0 : (0 : Int) ≤ (k : Int) := by omega
        have hk2 : (k : Int) < (ls.length : Int) := by omega
        obtain ⟨o, ho⟩ : ∃ o, okS ((n1, n2, n3), q) = o := ⟨_, rfl⟩
        have O := Lib.hid ho
        clear ho
        have T := Lib.hid fun w => secCheck_any n1 n2 n3 q w
        rw [O.out] at T
        have K0 := Lib.hid ka
        have kaw : Acc wr wr := Acc.refl _
        clear ka
        go_wp2_with fail
        refine (T.out _).mono ?_
        rintro e W1 h
        obtain ⟨h, hb⟩ := Chk.out h
        have Bs : Blk W1 (wr.heap.size) [.int .i64 n1, .int .i64 n2, .int .i64 n3, .int .i64 q] := Blk.keep hb (by repeat' (first | (with_reducible first | assumption | refine Blk.drew ?_ | refine Blk.drewN ?_ _ | apply Blk.set | (refine Blk.new ?_; focus (first | rfl | (simp; done))) | refine Blk.alloc ?_ _ | refine Blk.other ?_ ?_ _) | exact eqL rfl | (refine neB ?_; omega)))
        have cs := Bs.cell
        have fs := Bs.free
        have ls_W1 := Bs.lt
        have kaW1 : Acc wr W1 := by
          refine Acc.call ?_ hb
          (repeat' (first | (with_reducible first | assumption | exact Acc.refl _ | refine Acc.drew ?_ | refine Acc.drewN ?_ _ | refine Acc.alloc ?_ _ | refine Acc.setCell ?_ ?_ _) | (refine leB ?_; omega)))
        clear hb
        rcases h with ⟨rfl, rfl⟩ | ⟨s, rfl, rfl⟩
        · skip
          go_wp2_with fail
          go_roundw
          case rel =>
            refine ⟨k + 1, some ⟨W1.heap.size, 0, none⟩, by go_num, rfl, hk1, Acc.call K0.out (show Acc wr _ by repeat' (first | (with_reducible first | assumption | exact Acc.refl _ | refine Acc.drew ?_ | refine Acc.drewN ?_ _ | refine Acc.alloc ?_ _ | refine Acc.setCell ?_ ?_ _) | (refine leB ?_; omega))), ?_, allS_yes HT.out O.out HA.out⟩
            rw [rev_take HT.out]
            exact Fib.cons ((HX.out.below (show Acc wr _ by repeat' (first | (with_reducible first | assumption | exact Acc.refl _ | refine Acc.drew ?_ | refine Acc.drewN ?_ _ | refine Acc.alloc ?_ _ | refine Acc.setCell ?_ ?_ _) | (refine leB ?_; omega)))).mono kaW1.size) (Nat.le_trans K0.out.size kaW1.size) (show Blk _ _ [.int .i64 n1, .int .i64 n2, .int .i64 n3, .int .i64 q, .pointer f] by repeat' (first | (with_reducible first | assumption | refine Blk.drew ?_ | refine Blk.drewN ?_ _ | apply Blk.set | (refine Blk.new ?_; focus (first | rfl | (simp; done))) | refine Blk.alloc ?_ _ | refine Blk.other ?_ ?_ _) | exact eqL rfl | (refine neB ?_; omega)))
          case measure => simp [intOf]; omega
        · skip
          go_wp2_with fail
          refine bodyPost_ret (by conv => lhs; simp [results, Tryz.results61, go_sem, *]) rfl ⟨fun h => (by rw [allS_no HT.out O.out] at h; cases h), fun _ => ⟨_, rfl⟩, ?_⟩
          exact Acc.call K0.out (show Acc wr _ by repeat' (first | (with_reducible first | assumption | exact Acc.refl _ | refine Acc.drew ?_ | refine Acc.drewN ?_ _ | refine Acc.alloc ?_ _ | refine Acc.setCell ?_ ?_ _) | (refine leB ?_; omega)))
      · obtain rfl : k = ls.length := by omega
        have e9 : okFb ls = true := by rw [HO.out]; have := HA.out; rwa [List.take_length] at this
        have E9 := Lib.hid e9
        clear e9
        have HY : RowKit.Hid (Fib w.heap.size wr.heap.size wr f ls.reverse) := Lib.hid (by have := HX.out; rwa [List.take_length] at this)
        clear HX
        have hk2 : ¬ (ls.length : Int) < (ls.length : Int) := by omega
        go_wp2_with fail
        refine bodyPost_ret (by conv => lhs; simp [results, Tryz.results61, go_sem, *]) rfl ⟨fun _ => ⟨_, rfl, HY.out⟩, fun h => (by rw [E9.out] at h; cases h), ?_⟩
        show Acc w _
        (repeat' (first | (with_reducible first | assumption | exact Acc.refl _ | refine Acc.drew ?_ | refine Acc.drewN ?_ _ | refine Acc.alloc ?_ _ | refine Acc.setCell ?_ ?_ _) | (refine leB ?_; omega)))
  · have e9 : okFb ls = false := by unfold okFb; rw [decide_eq_false h8, Bool.and_false]
    have E9 := Lib.hid e9
    clear e9
    have h9 : (8 : Int) < ls.length := by omega
    clear h8
    go_enter Tryz.func61, Tryz.ntmps61
    go_wp2_with fail
    refine bodyPost_ret (by conv => lhs; simp [results, Tryz.results61, go_sem, *]) rfl ⟨fun h => (by rw [E9.out] at h; cases h), fun _ => ⟨_, rfl⟩, ?_⟩
    show Acc w _
    (repeat' (first | (with_reducible first | assumption | exact Acc.refl _ | refine Acc.drew ?_ | refine Acc.drewN ?_ _ | refine Acc.alloc ?_ _ | refine Acc.setCell ?_ ?_ _) | (refine leB ?_; omega)))
end Go.Proofs.YtkdkeacfifjjoabGreatDoor
