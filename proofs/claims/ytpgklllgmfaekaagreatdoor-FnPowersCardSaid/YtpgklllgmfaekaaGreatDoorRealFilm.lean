/-
  The laws' realFilm.
-/
import Derived.Test.YtpgklllgmfaekaaGreatDoorSpecF1
namespace Go.Proofs.YtpgklllgmfaekaaGreatDoor
open Go.ChangeShapes Go.WideShapes Go.ChangeAt Go.RowKit
set_option linter.unusedVariables false

set_option linter.unusedSimpArgs false
set_option maxRecDepth 100000 in
set_option maxHeartbeats 8000000 in
theorem realFilm_any (a : Option Addr) (ls : List L4) (cap : Nat) (w : World) (h : Lys w a ls) (hn : ls.length ≤ 1048576) : Calls Tryz.prog 8 #[.slice a ls.length cap] w fun e w' => e = .returned (.bool (ls.all fun l => l.1.2.1 == 0)) ∧ Below w.heap.size w w' := by
  have H := Lib.hid h
  clear h
  go_enter Tryz.func8, Tryz.ntmps8
  go_wp2_with fail
  go_loopw [3] (fun i wr => ∃ k : Nat, i = .int .i64 k ∧ k ≤ ls.length ∧ Acc w wr ∧ (ls.take k).all (fun l => l.1.2.1 == 0) = true) (fun i _ => ls.length - (intOf i).toNat)
  case atStart => exact ⟨0, rfl, Nat.zero_le _, Acc.refl _, rfl⟩
  case round =>
    obtain ⟨k, rfl, hk, ka, hall⟩ := hrel
    have HA := Lib.hid hall
    clear hall
    by_cases hlt : k < ls.length
    ·
      obtain ⟨c, off, rfl, hc, hi, e0, e1, e2, e3⟩ := H.out.at hlt
      have HT : RowKit.Hid (ls.take (k + 1) = ls.take k ++ [ls[k]]) := Lib.hid (by rw [List.take_add_one, List.getElem?_eq_getElem hlt]; rfl)
      have HD : RowKit.Hid (ls.drop k = ls[k] :: ls.drop (k + 1)) := Lib.hid (List.drop_eq_getElem_cons hlt)
      have HM : RowKit.Hid (ls[k] ∈ ls) := Lib.hid (List.getElem_mem hlt)
      generalize ls[k] = x at hi e0 e1 e2 e3 HT HD HM
      obtain ⟨⟨n1, n2, n3⟩, q⟩ := x
      dsimp only at e0 e1 e2 e3
      have HC := Lib.hid fun (W : World) (ka : Acc w W) => And.intro ((ka.cell (p := ⟨c, off + k * 4, none⟩) hc).trans e0) (And.intro ((ka.cell (p := ⟨c, off + k * 4 + 1, none⟩) hc).trans e1) (And.intro ((ka.cell (p := ⟨c, off + k * 4 + 2, none⟩) hc).trans e2) ((ka.cell (p := ⟨c, off + k * 4 + 3, none⟩) hc).trans e3)))
      have hk1 : k + 1 ≤ ls.length := hlt
      have HI := Lib.hid hi
      clear hi e0 e1 e2 e3 hc
      obtain ⟨e0, e1, e2, e3⟩ := HC.out _ ka
      have hk0 : (0 : Int) ≤ (k : Int) := by omega
      have hk2 : (k : Int) < (ls.length : Int) := by omega
      by_cases h2 : n2 = 0
      ·
        subst h2
        go_wp2_with fail
        go_roundw
        case rel => exact ⟨k + 1, by go_num, hk1, ‹Acc w _›, (by rw [HT.out, List.all_append, HA.out]; rfl)⟩
        case measure => simp [intOf]; omega
      ·
        have h2b : (n2 == 0) = false := by simp [h2]
        have h2c : (n2 != 0) = true := by simp [h2]
        go_wp2_with fail
        go_ret
        refine ⟨congrArg (fun b => Ending.returned (.bool b)) (show false = _ from ?_), ?_⟩
        · have e := List.take_append_drop (k + 1) ls
          rw [← e, HT.out, List.all_append, List.all_append]
          simp [h2b]
        ·
          show Acc w _
          (repeat' (first | (with_reducible first | assumption | exact Acc.refl _ | refine Acc.drew ?_ | refine Acc.drewN ?_ _ | refine Acc.alloc ?_ _ | refine Acc.setCell ?_ ?_ _) | (refine leB ?_; omega)))
    · obtain rfl : k = ls.length := by omega
      go_wp2_with fail
      go_ret
      refine ⟨congrArg (fun b => Ending.returned (.bool b)) (show true = _ from ?_), ?_⟩
      · have := HA.out
        rw [List.take_length] at this
        exact this.symm
      · exact ka
end Go.Proofs.YtpgklllgmfaekaaGreatDoor
