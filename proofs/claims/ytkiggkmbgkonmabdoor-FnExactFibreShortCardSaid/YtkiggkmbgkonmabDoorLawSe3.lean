/-
  What the exact laws do with fibres: lists marked and held.
-/
import Derived.Test.YtkiggkmbgkonmabDoorWr
import Derived.Test.YtkiggkmbgkonmabDoorRow
namespace Go.Proofs.YtkiggkmbgkonmabDoor
open Go.ChangeShapes Go.WideShapes Go.ChangeAt Go.RowKit
set_option linter.unusedVariables false

set_option linter.unusedSimpArgs false
set_option maxRecDepth 100000 in
set_option maxHeartbeats 8000000 in
theorem markS_any (g : Nat) (v : Value) (ls : List L4) (k : Int) (w : World) (h : Wr g w v ls) (hk : 0 ≤ k) (hb : k + 4 * ls.length ≤ 9000000000000000000) : Calls Tryd.prog 16 #[v, .int .i64 k] w fun e w' => e = .returned (.int .i64 (k + 4 * ls.length)) ∧ Only g w w' ∧ Wr g w' v (mkL k ls.length) := by
  obtain ⟨a, cap, rfl, hi, h⟩ := h
  rcases h with rfl | ⟨rfl, LV, BT, hl, ht⟩
  · clear hi
    have hz : k + 4 * (([] : List L4).length : Int) = k := by simp
    have e0 : ([] : List L4).length = 0 := rfl
    rw [hz, e0]
    go_enter Tryd.func16, Tryd.ntmps16
    go_wp2_with fail
    go_loopw [5, 1] (fun i q wr => i = .int .i64 0 ∧ q = .int .i64 k ∧ wr = w) (fun i _ _ => 0)
    case atStart => exact ⟨rfl, rfl, rfl⟩
    case round =>
      obtain ⟨rfl, rfl, rfl⟩ := hrel
      go_wp2_with fail
      go_ret
      exact ⟨rfl, Only.refl _ _, _, cap, rfl, (fun l h => by cases h), .inl rfl⟩
  · obtain ⟨n, hn⟩ : ∃ n, ls.length = n := ⟨_, rfl⟩
    rw [hn] at hb hl ⊢
    clear hi ht hn ls
    have HB := Lib.hid BT
    have HL := Lib.hid hl
    clear BT hl
    go_enter Tryd.func16, Tryd.ntmps16
    go_wp2_with fail
    go_loopw [5, 1] (fun i q wr => ∃ (j : Nat) (LV : List Value), i = .int .i64 j ∧ q = .int .i64 (k + 4 * j) ∧ j ≤ n ∧ Only g w wr ∧ BlkT wr g 26 LV ∧ n * 4 ≤ LV.length ∧ LV.take (j * 4) = layC (mkL k j)) (fun i _ _ => n - (intOf i).toNat)
    case atStart => exact ⟨0, LV, rfl, by simp, Nat.zero_le _, Only.refl _ _, HB.out, HL.out, by simp [layC, mkL]⟩
    case round =>
      clear HB HL LV
      obtain ⟨j, LV, rfl, rfl, hj, ho, BT, hl, ht⟩ := hrel
      have HO := Lib.hid ho
      have HB := Lib.hid BT
      have HL := Lib.hid hl
      have HT := Lib.hid ht
      clear ho BT hl ht
      have hj0 : (0 : Int) ≤ (j : Int) := by omega
      by_cases hlt : j < n
      · have hj1 : j + 1 ≤ n := hlt
        have hj2 : (j : Int) < (n : Int) := by omega
        obtain ⟨kk, hkk⟩ : ∃ kk, k + 4 * (j : Int) = kk := ⟨_, rfl⟩
        have hk0 : 0 ≤ kk := by omega
        have hk1 : kk + 4 ≤ 9000000000000000000 := by omega
        rw [hkk]
        have HK := Lib.hid hkk
        clear hkk
        have cell : ∀ i, i < 4 → ∃ u, wr.cell? ⟨g, j * 4 + i, none⟩ = some u := fun i hi4 => by
          have := HL.out
          exact ⟨LV[j * 4 + i], (HB.out.blk.cell _).trans (List.getElem?_eq_getElem (by omega))⟩
        obtain ⟨u0, c0⟩ := cell 0 (by decide)
        obtain ⟨u1, c1⟩ := cell 1 (by decide)
        obtain ⟨u2, c2⟩ := cell 2 (by decide)
        obtain ⟨u3, c3⟩ := cell 3 (by decide)
        rw [Nat.add_zero] at c0
        have ff := HB.out.blk.free
        clear cell
        go_wp2_with fail
        go_roundw
        case rel =>
          refine ⟨j + 1, setL LV (j * 4) [.int .i64 kk, .int .i64 (kk + 1), .int .i64 (kk + 1 + 1), .int .i64 (kk + 1 + 1 + 1)], by go_num, ?_, hj1, ?_, ?_, ?_, ?_⟩
          · rw [show k + 4 * ((j + 1 : Nat) : Int) = kk + 1 + 1 + 1 + 1 by have := HK.out; omega]
          · exact Only.setCells [.int .i64 kk, .int .i64 (kk + 1), .int .i64 (kk + 1 + 1), .int .i64 (kk + 1 + 1 + 1)] (j * 4) _ HO.out
          · exact BlkT.setCells' [.int .i64 kk, .int .i64 (kk + 1), .int .i64 (kk + 1 + 1), .int .i64 (kk + 1 + 1 + 1)] (j * 4) wr LV HB.out
          · rw [setL_len]
            exact HL.out
          · have e := setL_take (r := [.int .i64 kk, .int .i64 (kk + 1), .int .i64 (kk + 1 + 1), .int .i64 (kk + 1 + 1 + 1)]) (vs := LV) (o := j * 4) (by have := HL.out; simp only [List.length_cons, List.length_nil]; omega)
            rw [show (j + 1) * 4 = j * 4 + ([.int .i64 kk, .int .i64 (kk + 1), .int .i64 (kk + 1 + 1), .int .i64 (kk + 1 + 1 + 1)] : List Value).length by simp only [List.length_cons, List.length_nil]; omega, e, HT.out, mkL, layC_append, HK.out]
            rfl
        case measure => simp [intOf]; omega
      · obtain rfl : j = n := by omega
        have hj2 : ¬ (j : Int) < (j : Int) := by omega
        go_wp2_with fail
        go_ret
        refine ⟨rfl, HO.out, _, cap, by rw [mkL_len], mkL_i64 hk hb, .inr ⟨rfl, LV, HB.out, by rw [mkL_len]; exact HL.out, by rw [mkL_len]; exact HT.out⟩⟩
set_option maxRecDepth 100000 in
set_option maxHeartbeats 8000000 in
theorem heldS_any (a : Option Addr) (n cap : Nat) (k : Int) (w : World) (h : Lys w a (mkL k n)) (hk : 0 ≤ k) (hb : k + 4 * n ≤ 9000000000000000000) : Calls Tryd.prog 17 #[.slice a n cap, .int .i64 k] w fun e w' => e = .returned (.int .i64 (k + 4 * n)) ∧ Below w.heap.size w w' := by
  have H := Lib.hid h
  clear h
  go_enter Tryd.func17, Tryd.ntmps17
  go_wp2_with fail
  go_loopw [5, 1] (fun i q wr => ∃ j : Nat, i = .int .i64 j ∧ q = .int .i64 (k + 4 * j) ∧ j ≤ n ∧ Acc w wr) (fun i _ _ => n - (intOf i).toNat)
  case atStart => exact ⟨0, rfl, by simp, Nat.zero_le _, Acc.refl _⟩
  case round =>
    obtain ⟨j, rfl, rfl, hj, ka⟩ := hrel
    have hj0 : (0 : Int) ≤ (j : Int) := by omega
    by_cases hlt : j < n
    · obtain ⟨c, off, rfl, hc, hi, e0, e1, e2, e3⟩ := H.out.at (k := j) (by rw [mkL_len]; exact hlt)
      have HE : (mkL k n)[j]'(by rw [mkL_len]; exact hlt) = ((k + 4 * j, k + 4 * j + 1, k + 4 * j + 1 + 1), k + 4 * j + 1 + 1 + 1) := by
        have := mkL_at (k := k) hlt
        rw [List.getElem?_eq_getElem (by rw [mkL_len]; exact hlt)] at this
        exact Option.some.inj this
      rw [HE] at e0 e1 e2 e3
      dsimp only at e0 e1 e2 e3
      have hj1 : j + 1 ≤ n := hlt
      have hj2 : (j : Int) < (n : Int) := by omega
      obtain ⟨kk, hkk⟩ : ∃ kk, k + 4 * (j : Int) = kk := ⟨_, rfl⟩
      have hk0 : 0 ≤ kk := by omega
      have hk1 : kk + 4 ≤ 9000000000000000000 := by omega
      rw [hkk] at e0 e1 e2 e3 ⊢
      replace e0 := (ka.cell (p := ⟨c, off + j * 4, none⟩) hc).trans e0
      replace e1 := (ka.cell (p := ⟨c, off + j * 4 + 1, none⟩) hc).trans e1
      replace e2 := (ka.cell (p := ⟨c, off + j * 4 + 2, none⟩) hc).trans e2
      replace e3 := (ka.cell (p := ⟨c, off + j * 4 + 3, none⟩) hc).trans e3
      have HK := Lib.hid hkk
      clear hkk HE hi
      go_wp2_with fail
      go_roundw
      case rel =>
        refine ⟨j + 1, by go_num, ?_, hj1, ‹Acc w _›⟩
        rw [show k + 4 * ((j + 1 : Nat) : Int) = kk + 1 + 1 + 1 + 1 by have := HK.out; omega]
      case measure => simp [intOf]; omega
    · obtain rfl : j = n := by omega
      have hj2 : ¬ (j : Int) < (j : Int) := by omega
      go_wp2_with fail
      go_ret
      exact ⟨rfl, ka⟩
end Go.Proofs.YtkiggkmbgkonmabDoor
