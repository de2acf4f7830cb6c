/-
  What the exact laws do with fibres: copies of lists.
-/
import Derived.Test.YtkiggkmbgkonmaaGreatDoorLawSe0
import Derived.Test.YtkiggkmbgkonmaaGreatDoorLawFl1
namespace Go.Proofs.YtkiggkmbgkonmaaGreatDoor
open Go.ChangeShapes Go.WideShapes Go.ChangeAt Go.RowKit
set_option linter.unusedVariables false

set_option linter.unusedSimpArgs false
theorem info_section : (Tryz.prog.info? 54).map (fun i => (i.zero, i.size, i.bytes)) = some (some (.agg #[.int .i64 0, .int .i64 0, .int .i64 0, .int .i64 0]), 4, 32) := by kernel_rfl
/-- A copy of a list: a block of its own, cell by cell. -/
def CopiedS (ls : List L4) (w : World) (e : Ending) (w' : World) : Prop :=
  ∃ g : Nat, w.heap.size ≤ g ∧ e = .returned (.slice (some ⟨g, 0, none⟩) ls.length ls.length) ∧ BlkT w' g 54 (layC ls) ∧ Below w.heap.size w w'
set_option maxRecDepth 100000 in
set_option maxHeartbeats 8000000 in
theorem toSectionS_any (a : Option Addr) (ls : List L4) (cap : Nat) (w : World) (h : Lys w a ls) (hn : ls.length ≤ 1048576) : Calls Tryz.prog 9 #[.slice a ls.length cap] w (CopiedS ls w) := by
  have H := Lib.hid h
  clear h
  obtain ⟨i0, hi0, hz0, hz1, hz2⟩ := info_parts info_section
  go_enter Tryz.func9, Tryz.ntmps9
  go_wp2_with (at_make; refine wpList_make_full _ rfl _ _ 31 rfl w.heap.size 54 i0 (.agg #[.int .i64 0, .int .i64 0, .int .i64 0, .int .i64 0]) 4 Tryz.underlying31 hi0 hz0 hz1 .i64 .i64 _ _ ls.length rfl rfl rfl rfl (by rw [hz2]; omega) (by unfold maxLen; omega) (Nat.le_refl _) ?_)
  clear hi0 hz0 hz1 hz2
  intro W1 hown hgr
  have kaW1 : Acc w W1 := (Acc.refl w).grown hgr (Nat.le_refl _) (fun k h => by cases h)
  obtain ⟨LV, BT, hLV⟩ := own_blkT hown
  clear hown hgr
  obtain ⟨g, hg⟩ : ∃ g, g = w.heap.size := ⟨_, rfl⟩
  have hgw : w.heap.size ≤ g := Nat.le_of_eq hg.symm
  rw [← hg] at BT ⊢
  clear hg
  go_wp2_with fail
  go_loopw [4] (fun i wr => ∃ (k : Nat) (LV : List Value), i = .int .i64 k ∧ k ≤ ls.length ∧ Acc w wr ∧ BlkT wr g 54 LV ∧ LV.length = ls.length * 4 ∧ LV.take (k * 4) = layC (ls.take k)) (fun i _ => ls.length - (intOf i).toNat)
  case atStart => exact ⟨0, LV, rfl, Nat.zero_le _, ‹Acc w _›, BT, hLV, by simp [layC]⟩
  case round =>
    clear BT hLV kaW1 LV
    obtain ⟨k, LV, rfl, hk, ka, BT, hLV, htk⟩ := hrel
    have HX := Lib.hid (And.intro BT (And.intro hLV htk))
    clear BT hLV htk
    by_cases hlt : k < ls.length
    ·
      obtain ⟨c, off, rfl, hc, hi, e0, e1, e2, e3⟩ := H.out.at hlt
      have HT : RowKit.Hid (ls.take (k + 1) = ls.take k ++ [ls[k]]) := Lib.hid (by rw [List.take_add_one, List.getElem?_eq_getElem hlt]; rfl)
      have HD : RowKit.Hid (ls.drop k = ls[k] :: ls.drop (k + 1)) := Lib.hid (List.drop_eq_getElem_cons hlt)
      have HM : RowKit.Hid (ls[k] ∈ ls) := Lib.hid (List.getElem_mem hlt)
      generalize ls[k] = x at hi e0 e1 e2 e3 HT HD HM
      obtain ⟨⟨n1, n2, n3⟩, q⟩ := x
      dsimp only at e0 e1 e2 e3
      have HC := Lib.hid fun (W : World) (ka : Acc w W) => And.intro ((ka.cell (p := ⟨c, off + k * 4, none⟩) hc).trans e0) (And.intro ((ka.cell (p := ⟨c, off + k * 4 + 1, none⟩) hc).trans e1) (And.intro ((ka.cell (p := ⟨c, off + k * 4 + 2, none⟩) hc).trans e2) ((ka.cell (p := ⟨c, off + k * 4 + 3, none⟩) hc).trans e3)))
      have hk1 : k + 1 ≤ ls.length := hlt
      have HI := Lib.hid hi
      clear hi e0 e1 e2 e3 hc
      obtain ⟨e0, e1, e2, e3⟩ := HC.out _ ka
      have hk0 : (0 : Int) ≤ (k : Int) := by omega
      have hk2 : (k : Int) < (ls.length : Int) := by omega
      go_wp2_with fail
      refine (toSection_any n1 n2 n3 q _).mono ?_
      rintro e W2 ⟨rfl, hb⟩
      have kaW2 : Acc w W2 := Acc.call ka hb
      have BT : BlkT W2 g 54 LV := HX.out.1.keep hb
      have HL := Lib.hid HX.out.2
      clear HX hb e0 e1 e2 e3
      go_wp2_with (refine wpList_store_mid rfl 54 (.tmp 21) (.tmp 20) rfl g (k * 4) #[.int .i64 n1, .int .i64 n2, .int .i64 n3, .int .i64 q] rfl rfl ?ht ?hi ?ho ?_)
      case ht => exact there_blkT BT (by have := HL.out.1; simp only [List.size_toArray, List.length_cons, List.length_nil]; omega)
      case hi => rfl
      case ho => exact oneInts [n1, n2, n3, q]
      go_roundw
      case rel =>
        refine ⟨k + 1, setL LV (k * 4) [.int .i64 n1, .int .i64 n2, .int .i64 n3, .int .i64 q], by go_num, hk1, Acc.setCells hgw _ _ _ kaW2, BlkT.setCells' [.int .i64 n1, .int .i64 n2, .int .i64 n3, .int .i64 q] (k * 4) W2 LV BT, ?_, ?_⟩
        · rw [setL_len]; exact HL.out.1
        · have e := setL_take (r := [.int .i64 n1, .int .i64 n2, .int .i64 n3, .int .i64 q]) (vs := LV) (o := k * 4) (by have := HL.out.1; simp only [List.length_cons, List.length_nil]; omega)
          rw [show (k + 1) * 4 = k * 4 + ([.int .i64 n1, .int .i64 n2, .int .i64 n3, .int .i64 q] : List Value).length by simp only [List.length_cons, List.length_nil]; omega, e, HL.out.2, HT.out, layC_append]
          rfl
      case measure => simp [intOf]; omega
    · obtain rfl : k = ls.length := by omega
      have e : LV = layC ls := by
        have e := HX.out.2.2
        rwa [List.take_of_length_le (Nat.le_of_eq HX.out.2.1), List.take_length] at e
      have BT := HX.out.1
      rw [e] at BT
      clear HX e
      go_wp2_with fail
      go_ret
      exact ⟨g, hgw, rfl, BT, ka⟩
end Go.Proofs.YtkiggkmbgkonmaaGreatDoor
