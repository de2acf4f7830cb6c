/-
  What the exact laws do with fibres: lists compared.
-/
import Derived.Test.YtkiggkmbgkonmaaGreatDoorLawSe0
import Derived.Deep.RegionHeld3
namespace Go.Proofs.YtkiggkmbgkonmaaGreatDoor
open Go.ChangeShapes Go.WideShapes Go.ChangeAt Go.RowKit
set_option linter.unusedVariables false

set_option linter.unusedSimpArgs false
set_option maxRecDepth 100000 in
set_option maxHeartbeats 8000000 in
theorem eqSectionS_any (a b : Option Addr) (ls : List L4) (cap cap' : Nat) (w : World) (h : Lys w a ls) (h' : Lys w b ls) (hn : ls.length ≤ 1048576) : Calls Tryz.prog 12 #[.slice a ls.length cap, .slice b ls.length cap'] w fun e w' => e = .returned (.bool true) ∧ Below w.heap.size w w' := by
  have H := Lib.hid h
  have H' := Lib.hid h'
  clear h h'
  go_enter Tryz.func12, Tryz.ntmps12
  go_wp2_with fail
  go_loopw [5] (fun i wr => ∃ k : Nat, i = .int .i64 k ∧ k ≤ ls.length ∧ Acc w wr) (fun i _ => ls.length - (intOf i).toNat)
  case atStart => exact ⟨0, rfl, Nat.zero_le _, Acc.refl _⟩
  case round =>
    obtain ⟨k, rfl, hk, ka⟩ := hrel
    by_cases hlt : k < ls.length
    ·
      obtain ⟨c, off, rfl, hc, hi, e0, e1, e2, e3⟩ := H.out.at hlt
      obtain ⟨c', off', rfl, hc', -, f0, f1, f2, f3⟩ := H'.out.at hlt
      have hk1 : k + 1 ≤ ls.length := hlt
      have hk0 : (0 : Int) ≤ (k : Int) := by omega
      have hk2 : (k : Int) < (ls.length : Int) := by omega
      generalize ls[k] = x at hi e0 e1 e2 e3 f0 f1 f2 f3
      obtain ⟨⟨n1, n2, n3⟩, q⟩ := x
      dsimp only at e0 e1 e2 e3 f0 f1 f2 f3
      have HCC := Lib.hid fun (W : World) (ka : Acc w W) => And.intro ((ka.cell (p := ⟨c, off + k * 4, none⟩) hc).trans e0) (And.intro ((ka.cell (p := ⟨c, off + k * 4 + 1, none⟩) hc).trans e1) (And.intro ((ka.cell (p := ⟨c, off + k * 4 + 2, none⟩) hc).trans e2) (And.intro ((ka.cell (p := ⟨c, off + k * 4 + 3, none⟩) hc).trans e3) (And.intro ((ka.cell (p := ⟨c', off' + k * 4, none⟩) hc').trans f0) (And.intro ((ka.cell (p := ⟨c', off' + k * 4 + 1, none⟩) hc').trans f1) (And.intro ((ka.cell (p := ⟨c', off' + k * 4 + 2, none⟩) hc').trans f2) ((ka.cell (p := ⟨c', off' + k * 4 + 3, none⟩) hc').trans f3)))))))
      clear e0 e1 e2 e3 f0 f1 f2 f3
      obtain ⟨e0, e1, e2, e3, f0, f1, f2, f3⟩ := HCC.out _ ka
      clear hi hc hc' H H'
      go_upto_region 6 with fail
      go_region_held3 (fun w' => w'.cell? ⟨c, off + k * 4, none⟩ = some (.int .i64 n1) ∧ w'.cell? ⟨c, off + k * 4 + 1, none⟩ = some (.int .i64 n2) ∧ w'.cell? ⟨c, off + k * 4 + 2, none⟩ = some (.int .i64 n3) ∧ w'.cell? ⟨c, off + k * 4 + 3, none⟩ = some (.int .i64 q) ∧ w'.cell? ⟨c', off' + k * 4, none⟩ = some (.int .i64 n1) ∧ w'.cell? ⟨c', off' + k * 4 + 1, none⟩ = some (.int .i64 n2) ∧ w'.cell? ⟨c', off' + k * 4 + 2, none⟩ = some (.int .i64 n3) ∧ w'.cell? ⟨c', off' + k * 4 + 3, none⟩ = some (.int .i64 q))
        (((try dsimp only); (exact HCC.out _ (show Acc w _ by repeat' (first | (with_reducible first | assumption | exact Acc.refl _ | refine Acc.drew ?_ | refine Acc.drewN ?_ _ | refine Acc.alloc ?_ _ | refine Acc.setCell ?_ ?_ _) | (refine leB ?_; omega))))))
        (first | (go_at_call 31; refine (eqSection_any n1 n2 n3 q _).mono ?_; rintro e W1 ⟨rfl, hb⟩; have kaW1 : Acc w W1 := (Acc.call (show Acc w _ by repeat' (first | (with_reducible first | assumption | exact Acc.refl _ | refine Acc.drew ?_ | refine Acc.drewN ?_ _ | refine Acc.alloc ?_ _ | refine Acc.setCell ?_ ?_ _) | (refine leB ?_; omega))) hb); clear hb))
      all_goals
        go_wp2_with fail
        go_roundw
        case rel => exact ⟨k + 1, by go_num, hk1, ‹Acc w _›⟩
        case measure => simp [intOf]; omega
    · obtain rfl : k = ls.length := by omega
      go_wp2_with fail
      go_ret
      exact ⟨rfl, ka⟩
end Go.Proofs.YtkiggkmbgkonmaaGreatDoor
