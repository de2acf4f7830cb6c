/-
  The model: films: valid, a layer's matrix.
-/
import Derived.Test.YtkdkeacfifjjoabDoorBFib
import Derived.Test.YtkdkeacfifjjoabDoorSpecM3
import Derived.Test.YtkdkeacfifjjoabDoorSpecM5
import Derived.Test.YtkdkeacfifjjoabDoorBSpecF
namespace Go.Proofs.YtkdkeacfifjjoabDoor
open Go.ChangeShapes Go.WideShapes Go.ChangeAt Go.RowKit
set_option linter.unusedVariables false

set_option linter.unusedSimpArgs false
theorem all_no {ls : List L4} {k : Nat} {x : L4} (e : ls.take (k + 1) = ls.take k ++ [x]) (h : okL x = false) : okFl ls = false := by
  have e2 := List.take_append_drop (k + 1) ls
  unfold okFl
  rw [show ls.all okL = false by rw [← e2, e, List.all_append, List.all_append]; simp [h], Bool.false_and]
theorem all_yes {ls : List L4} {k : Nat} {x : L4} (e : ls.take (k + 1) = ls.take k ++ [x]) (h : okL x = true) (H : (ls.take k).all okL = true) : (ls.take (k + 1)).all okL = true := by
  rw [e, List.all_append, H]
  simp [h]
theorem okL_no1 {n1 n2 n3 q : Int} (h : okF n1 n2 n3 = false) : okL ((n1, n2, n3), q) = false := by
  unfold okL okX okT
  simp [h]
theorem okL_no2 {n1 n2 n3 q : Int} (h1 : n1 = 0) (h2 : n2 = 0) : okL ((n1, n2, n3), q) = false := by
  unfold okL okX
  simp [h1, h2]
theorem okL_no3 {n1 n2 n3 q : Int} (h : inB q 0 3 = false) : okL ((n1, n2, n3), q) = false := by
  unfold okL
  simp [h]
theorem okX_mk {n1 n2 n3 : Int} (h : okF n1 n2 n3 = true) (h0 : ¬ (n1 = 0 ∧ n2 = 0)) : okX (n1, n2, n3) = true := by
  unfold okX okT
  rw [show okF (n1, n2, n3).1 (n1, n2, n3).2.1 (n1, n2, n3).2.2 = true from h, Bool.true_and, Bool.not_eq_true', Bool.and_eq_false_iff, beq_eq_false_iff_ne, beq_eq_false_iff_ne]
  show n1 ≠ 0 ∨ n2 ≠ 0
  omega
theorem okL_mk {n1 n2 n3 q : Int} (h : okF n1 n2 n3 = true) (h0 : ¬ (n1 = 0 ∧ n2 = 0)) (h1 : inB q 0 3 = true) : okL ((n1, n2, n3), q) = true := by
  unfold okL
  rw [okX_mk h h0, h1]
  rfl
theorem okL_out {n1 n2 n3 q : Int} (h : okL ((n1, n2, n3), q) = true) : okF n1 n2 n3 = true ∧ ¬ (n1 = 0 ∧ n2 = 0) ∧ (q = 0 ∨ q = 1 ∨ q = 2 ∨ q = 3) := by
  unfold okL okX okT at h
  simp only [Bool.and_eq_true, Bool.not_eq_true', Bool.and_eq_false_iff, beq_eq_false_iff_ne] at h
  have := inB_bd h.2
  exact ⟨h.1.1, fun k => by rcases h.1.2 with h | h; exact h k.1; exact h k.2, by omega⟩
theorem okFl_mem {ls : List L4} (h : okFl ls = true) {x : L4} (hx : x ∈ ls) : okL x = true := by
  unfold okFl at h
  simp only [Bool.and_eq_true] at h
  exact List.all_eq_true.1 h.1 x hx
set_option maxRecDepth 100000 in
set_option maxHeartbeats 8000000 in
theorem specFlValid_any (a : Option Addr) (ls : List L4) (cap : Nat) (w : World) (h : Lys w a ls) (hn : ls.length ≤ 1048576) : Calls Tryd.prog 6 #[.slice a ls.length cap] w fun e w' => e = .returned (.bool (okFl ls)) ∧ Below w.heap.size w w' := by
  have H := Lib.hid h
  clear h
  go_enter Tryd.func6, Tryd.ntmps6
  go_wp2_with fail
  go_loopw [3] (fun i wr => ∃ k : Nat, i = .int .i64 k ∧ k ≤ ls.length ∧ Acc w wr ∧ (ls.take k).all okL = true) (fun i _ => ls.length - (intOf i).toNat)
  case atStart => exact ⟨0, rfl, Nat.zero_le _, Acc.refl _, rfl⟩
  case round =>
    obtain ⟨k, rfl, hk, ka, hall⟩ := hrel
    have HA := Lib.hid hall
    clear hall
    by_cases hlt : k < ls.length
    ·
      obtain ⟨c, off, rfl, hc, hi, e0, e1, e2, e3⟩ := H.out.at hlt
      have HT : RowKit.Hid (ls.take (k + 1) = ls.take k ++ [ls[k]]) := Lib.hid (by rw [List.take_add_one, List.getElem?_eq_getElem hlt]; rfl)
      have HD : RowKit.Hid (ls.drop k = ls[k] :: ls.drop (k + 1)) := Lib.hid (List.drop_eq_getElem_cons hlt)
      have HM : RowKit.Hid (ls[k] ∈ ls) := Lib.hid (List.getElem_mem hlt)
      generalize ls[k] = x at hi e0 e1 e2 e3 HT HD HM
      obtain ⟨⟨n1, n2, n3⟩, q⟩ := x
      dsimp only at e0 e1 e2 e3
      have HC := Lib.hid fun (W : World) (ka : Acc w W) => And.intro ((ka.cell (p := ⟨c, off + k * 4, none⟩) hc).trans e0) (And.intro ((ka.cell (p := ⟨c, off + k * 4 + 1, none⟩) hc).trans e1) (And.intro ((ka.cell (p := ⟨c, off + k * 4 + 2, none⟩) hc).trans e2) ((ka.cell (p := ⟨c, off + k * 4 + 3, none⟩) hc).trans e3)))
      have hk1 : k + 1 ≤ ls.length := hlt
      have HI := Lib.hid hi
      clear hi e0 e1 e2 e3 hc
      obtain ⟨e0, e1, e2, e3⟩ := HC.out _ ka
      obtain ⟨v, hv⟩ : ∃ v, okF n1 n2 n3 = v := ⟨_, rfl⟩
      have V := Lib.hid hv
      clear hv
      obtain ⟨u, hu⟩ : ∃ u, inB q 0 3 = u := ⟨_, rfl⟩
      have U := Lib.hid hu
      clear hu
      have z1 : (n1 == 0) = true ∨ (n1 == 0) = false := by cases n1 == 0 <;> simp
      have z2 : (n2 == 0) = true ∨ (n2 == 0) = false := by cases n2 == 0 <;> simp
      go_wp2_with fail
      refine (valid_at V.out (specValid_any n1 n2 n3 _)).mono ?_
      rintro e W1 ⟨rfl, hb⟩
      have Bn : Blk W1 (wr.heap.size) [.int .i64 n1, .int .i64 n2, .int .i64 n3] := Blk.keep hb (by repeat' (first | (with_reducible first | assumption | refine Blk.drew ?_ | refine Blk.drewN ?_ _ | apply Blk.set | (refine Blk.new ?_; focus (first | rfl | (simp; done))) | refine Blk.alloc ?_ _ | refine Blk.other ?_ ?_ _) | exact eqL rfl | (refine neB ?_; omega)))
      have cn := Bn.cell
      have fn := Bn.free
      have ln_W1 := Bn.lt
      have kaW1 : Acc w W1 := by
        refine Acc.call ?_ hb
        (repeat' (first | (with_reducible first | assumption | exact Acc.refl _ | refine Acc.drew ?_ | refine Acc.drewN ?_ _ | refine Acc.alloc ?_ _ | refine Acc.setCell ?_ ?_ _) | (refine leB ?_; omega)))
      clear hb
      cases v with
      | false =>
        go_wp2_with fail
        go_ret
        refine ⟨congrArg (fun b => Ending.returned (.bool b)) (all_no HT.out (okL_no1 V.out)).symm, ?_⟩
        show Acc w _
        (repeat' (first | (with_reducible first | assumption | exact Acc.refl _ | refine Acc.drew ?_ | refine Acc.drewN ?_ _ | refine Acc.alloc ?_ _ | refine Acc.setCell ?_ ?_ _) | (refine leB ?_; omega)))
      | true =>
        rcases z1 with z1 | z1
        · rcases z2 with z2 | z2
          ·
            go_wp2_with fail
            go_ret
            refine ⟨congrArg (fun b => Ending.returned (.bool b)) (all_no HT.out (okL_no2 (by simpa using z1) (by simpa using z2))).symm, ?_⟩
            show Acc w _
            (repeat' (first | (with_reducible first | assumption | exact Acc.refl _ | refine Acc.drew ?_ | refine Acc.drewN ?_ _ | refine Acc.alloc ?_ _ | refine Acc.setCell ?_ ?_ _) | (refine leB ?_; omega)))
          ·
            obtain ⟨e0, e1, e2, e3⟩ := HC.out _ kaW1
            go_wp2_with fail
            refine (specIn_of q 0 3 u U.out _).mono ?_
            rintro e wq ⟨rfl, rfl⟩
            cases u with
            | false =>
              go_wp2_with fail
              go_ret
              refine ⟨congrArg (fun b => Ending.returned (.bool b)) (all_no HT.out (okL_no3 U.out)).symm, ?_⟩
              show Acc w _
              (repeat' (first | (with_reducible first | assumption | exact Acc.refl _ | refine Acc.drew ?_ | refine Acc.drewN ?_ _ | refine Acc.alloc ?_ _ | refine Acc.setCell ?_ ?_ _) | (refine leB ?_; omega)))
            | true =>
              go_wp2_with fail
              go_roundw
              case rel => exact ⟨k + 1, by go_num, hk1, ‹Acc w _›, all_yes HT.out (okL_mk V.out (fun k => by simp at z2; exact z2 k.2) U.out) HA.out⟩
              case measure => simp [intOf]; omega
        ·
          obtain ⟨e0, e1, e2, e3⟩ := HC.out _ kaW1
          go_wp2_with fail
          refine (specIn_of q 0 3 u U.out _).mono ?_
          rintro e wq ⟨rfl, rfl⟩
          cases u with
          | false =>
            go_wp2_with fail
            go_ret
            refine ⟨congrArg (fun b => Ending.returned (.bool b)) (all_no HT.out (okL_no3 U.out)).symm, ?_⟩
            show Acc w _
            (repeat' (first | (with_reducible first | assumption | exact Acc.refl _ | refine Acc.drew ?_ | refine Acc.drewN ?_ _ | refine Acc.alloc ?_ _ | refine Acc.setCell ?_ ?_ _) | (refine leB ?_; omega)))
          | true =>
            go_wp2_with fail
            go_roundw
            case rel => exact ⟨k + 1, by go_num, hk1, ‹Acc w _›, all_yes HT.out (okL_mk V.out (fun k => by simp at z1; exact z1 k.1) U.out) HA.out⟩
            case measure => simp [intOf]; omega
    · obtain rfl : k = ls.length := by omega
      have HL : RowKit.Hid (decide ((ls.length : Int) ≤ 8) = okFl ls) := Lib.hid (by
        unfold okFl
        rw [show ls.all okL = true by have := HA.out; rwa [List.take_length] at this, Bool.true_and]
        exact decide_eq_decide.2 (by omega))
      go_wp2_with fail
      go_ret
      refine ⟨congrArg (fun b => Ending.returned (.bool b)) HL.out, ?_⟩
      show Acc w _
      (repeat' (first | (with_reducible first | assumption | exact Acc.refl _ | refine Acc.drew ?_ | refine Acc.drewN ?_ _ | refine Acc.alloc ?_ _ | refine Acc.setCell ?_ ?_ _) | (refine leB ?_; omega)))
end Go.Proofs.YtkdkeacfifjjoabDoor
