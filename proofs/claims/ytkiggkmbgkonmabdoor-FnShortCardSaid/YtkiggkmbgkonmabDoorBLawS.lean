/-
  What the exact laws do with lists of four ints.
-/
import Derived.Test.YtkiggkmbgkonmabDoorBFib
import Derived.Test.YtkiggkmbgkonmabDoorBLawF
import Derived.Test.YtkiggkmbgkonmabDoorRow
import Derived.Deep.MidRow
import Derived.OwnWalk
import Derived.Deep.RegionHeld3
namespace Go.Proofs.YtkiggkmbgkonmabDoor
open Go.ChangeShapes Go.WideShapes Go.ChangeAt Go.RowKit
set_option linter.unusedVariables false

set_option linter.unusedSimpArgs false
set_option linter.unusedSimpArgs false
/-- A list's cells. -/
def layC (ls : List L4) : List Value := ls.flatMap fun l => [.int .i64 l.1.1, .int .i64 l.1.2.1, .int .i64 l.1.2.2, .int .i64 l.2]
theorem layC_len (ls : List L4) : (layC ls).length = ls.length * 4 := by
  unfold layC
  induction ls with
  | nil => rfl
  | cons l r ih => rw [List.flatMap_cons, List.length_append, ih]; simp; omega
theorem layC_append (a b : List L4) : layC (a ++ b) = layC a ++ layC b := by unfold layC; rw [List.flatMap_append]
theorem layC_at {ls : List L4} {i : Nat} {l : L4} (h : ls[i]? = some l) : (layC ls)[i * 4]? = some (.int .i64 l.1.1) ∧ (layC ls)[i * 4 + 1]? = some (.int .i64 l.1.2.1) ∧ (layC ls)[i * 4 + 2]? = some (.int .i64 l.1.2.2) ∧ (layC ls)[i * 4 + 3]? = some (.int .i64 l.2) := by
  obtain ⟨hi, e⟩ := List.getElem?_eq_some_iff.1 h
  have e2 : layC ls = layC (ls.take i) ++ ([.int .i64 l.1.1, .int .i64 l.1.2.1, .int .i64 l.1.2.2, .int .i64 l.2] ++ layC (ls.drop (i + 1))) := by
    conv => lhs; rw [← List.take_append_drop i ls, List.drop_eq_getElem_cons hi, e]
    rw [layC_append]
    rfl
  have hl : (layC (ls.take i)).length = i * 4 := by rw [layC_len, List.length_take, Nat.min_eq_left (Nat.le_of_lt hi)]
  rw [e2]
  refine ⟨?_, ?_, ?_, ?_⟩ <;> rw [List.getElem?_append_right (by omega)]
  · rw [show i * 4 - (layC (ls.take i)).length = 0 by omega]; rfl
  · rw [show i * 4 + 1 - (layC (ls.take i)).length = 1 by omega]; rfl
  · rw [show i * 4 + 2 - (layC (ls.take i)).length = 2 by omega]; rfl
  · rw [show i * 4 + 3 - (layC (ls.take i)).length = 3 by omega]; rfl
theorem lys_of_blk {w : World} {g : Nat} {ls : List L4} (hi : ∀ l ∈ ls, i64L l) (h : Blk w g (layC ls)) : Lys w (some ⟨g, 0, none⟩) ls := by
  refine ⟨hi, .inr ⟨g, 0, rfl, h.lt, fun i l hl => ?_⟩⟩
  obtain ⟨h0, h1, h2, h3⟩ := layC_at hl
  simp only [Nat.zero_add]
  exact ⟨(h.cell _).trans h0, (h.cell _).trans h1, (h.cell _).trans h2, (h.cell _).trans h3⟩
theorem BlkT.setCells' {b : Nat} {T : TypeId} : ∀ (r : List Value) (o : Nat) (w : World) (vs : List Value), BlkT w b T vs → BlkT (w.setCells b o r) b T (setL vs o r)
  | [], _, _, _, h => h
  | v :: r, o, w, vs, h => BlkT.setCells' r (o + 1) (w.setCell ⟨b, o, none⟩ v) (vs.set o v) h.set
theorem setL_len : ∀ (r : List Value) (o : Nat) (vs : List Value), (setL vs o r).length = vs.length
  | [], _, _ => rfl
  | v :: r, o, vs => by rw [setL, setL_len r (o + 1), List.length_set]
theorem setL_take {r vs : List Value} {o : Nat} (h : o + r.length ≤ vs.length) : (setL vs o r).take (o + r.length) = vs.take o ++ r := by
  apply List.ext_getElem?
  intro k
  by_cases hk : k < o + r.length
  · rw [List.getElem?_take_of_lt hk, setL_get r o vs k h]
    by_cases h1 : k < o
    · rw [if_pos h1, List.getElem?_append_left (by rw [List.length_take]; omega), List.getElem?_take_of_lt h1]
    · rw [if_neg h1, if_pos hk, List.getElem?_append_right (by rw [List.length_take]; omega), List.length_take, Nat.min_eq_left (by omega)]
  · rw [List.getElem?_eq_none (by rw [List.length_take]; omega), List.getElem?_eq_none (by rw [List.length_append, List.length_take]; omega)]
theorem there_blkT {w : World} {b : Nat} {T : TypeId} {vs : List Value} (h : BlkT w b T vs) {o n : Nat} (e : o + n ≤ vs.length) : w.there b o n := fun j hj => by
  rw [h.blk.cell, h.blk.free, List.getElem?_eq_getElem (by omega)]
  exact ⟨rfl, rfl⟩
theorem own_blkT {w : World} {B sz g n cap : Nat} {e : TypeId} {xs : List Value} (h : w.ownsRow B e sz (.slice (some ⟨g, 0, none⟩) n cap) n xs) : ∃ LV, BlkT w g e LV ∧ LV.length = cap * sz := by
  rcases h.2 with ⟨h0, _⟩ | ⟨g', cap', cur, hv, hb, hg, h1, h2, h3, h4⟩
  · cases h0
  · injection hv with hv1 hv2 hv3
    injection hv1 with hv1
    injection hv1 with hv1
    subst hv1 hv3
    exact ⟨cur.toList, by unfold BlkT; simpa using hg, by simpa using h3⟩
set_option linter.unusedSimpArgs false
set_option maxHeartbeats 4000000 in
theorem toSection_any (n1 n2 n3 q : Int) (w : World) : Calls Tryd.prog 9 #[.agg #[.int .i64 n1, .int .i64 n2, .int .i64 n3, .int .i64 q]] w fun e w' => e = .returned (.agg #[.int .i64 n1, .int .i64 n2, .int .i64 n3, .int .i64 q]) ∧ Below w.heap.size w w' := by
  go_enter Tryd.func9, Tryd.ntmps9
  go_wp2_with fail
  refine bodyPost_ret (v := .agg #[.int .i64 n1, .int .i64 n2, .int .i64 n3, .int .i64 q]) (by simp [results, Tryd.results9, go_sem, *]) rfl ⟨rfl, ?_⟩
  show Acc w _
  (repeat' (first | (with_reducible first | assumption | exact Acc.refl _ | refine Acc.drew ?_ | refine Acc.drewN ?_ _ | refine Acc.alloc ?_ _ | refine Acc.setCell ?_ ?_ _) | (refine leB ?_; omega)))
set_option maxHeartbeats 4000000 in
theorem eqSection_any (n1 n2 n3 q : Int) (w : World) : Calls Tryd.prog 32 #[.agg #[.int .i64 n1, .int .i64 n2, .int .i64 n3, .int .i64 q], .agg #[.int .i64 n1, .int .i64 n2, .int .i64 n3, .int .i64 q]] w fun e w' => e = .returned (.bool true) ∧ Below w.heap.size w w' := by
  go_enter Tryd.func32, Tryd.ntmps32
  go_wp2_with fail
  go_ret
  refine ⟨rfl, ?_⟩
  show Acc w _
  (repeat' (first | (with_reducible first | assumption | exact Acc.refl _ | refine Acc.drew ?_ | refine Acc.drewN ?_ _ | refine Acc.alloc ?_ _ | refine Acc.setCell ?_ ?_ _) | (refine leB ?_; omega)))
set_option maxHeartbeats 2000000 in
theorem szSectionS_yes (a : Option Addr) (n cap : Nat) (left : Int) (h : (n : Int) ≤ left) (hl : left ≤ 1048576) (w : World) : Calls Tryd.prog 11 #[.slice a n cap, .int .i64 left] w fun e w' => e = .returned (.int .i64 (left - n)) ∧ Below w.heap.size w w' := by
  have h0 : ¬ left - (n : Int) < 0 := by omega
  go_enter Tryd.func11, Tryd.ntmps11
  go_wp2_with fail
  go_ret
  exact ⟨rfl, Below.refl _ _⟩
set_option maxHeartbeats 2000000 in
theorem szSectionS_no (a : Option Addr) (n cap : Nat) (left : Int) (h : left < (n : Int)) (hl : 0 ≤ left) (hm : (n : Int) ≤ 9223372036854775807) (w : World) : Calls Tryd.prog 11 #[.slice a n cap, .int .i64 left] w fun e w' => e = .returned (.int .i64 (-1)) ∧ Below w.heap.size w w' := by
  have h0 : left - (n : Int) < 0 := by omega
  go_enter Tryd.func11, Tryd.ntmps11
  go_wp2_with fail
  go_ret
  exact ⟨rfl, Below.refl _ _⟩

set_option linter.unusedSimpArgs false
theorem info_section : (Tryd.prog.info? 26).map (fun i => (i.zero, i.size, i.bytes)) = some (some (.agg #[.int .i64 0, .int .i64 0, .int .i64 0, .int .i64 0]), 4, 32) := by kernel_rfl
/-- A copy of a list: a block of its own, cell by cell. -/
def CopiedS (ls : List L4) (w : World) (e : Ending) (w' : World) : Prop :=
  ∃ g : Nat, w.heap.size ≤ g ∧ e = .returned (.slice (some ⟨g, 0, none⟩) ls.length ls.length) ∧ BlkT w' g 26 (layC ls) ∧ Below w.heap.size w w'
set_option maxRecDepth 100000 in
set_option maxHeartbeats 8000000 in
theorem toSectionS_any (a : Option Addr) (ls : List L4) (cap : Nat) (w : World) (h : Lys w a ls) (hn : ls.length ≤ 1048576) : Calls Tryd.prog 13 #[.slice a ls.length cap] w (CopiedS ls w) := by
  have H := Lib.hid h
  clear h
  obtain ⟨i0, hi0, hz0, hz1, hz2⟩ := info_parts info_section
  go_enter Tryd.func13, Tryd.ntmps13
  go_wp2_with (at_make; refine wpList_make_full _ rfl _ _ 31 rfl w.heap.size 26 i0 (.agg #[.int .i64 0, .int .i64 0, .int .i64 0, .int .i64 0]) 4 Tryd.underlying31 hi0 hz0 hz1 .i64 .i64 _ _ ls.length rfl rfl rfl rfl (by rw [hz2]; omega) (by unfold maxLen; omega) (Nat.le_refl _) ?_)
  clear hi0 hz0 hz1 hz2
  intro W1 hown hgr
  have kaW1 : Acc w W1 := (Acc.refl w).grown hgr (Nat.le_refl _) (fun k h => by cases h)
  obtain ⟨LV, BT, hLV⟩ := own_blkT hown
  clear hown hgr
  obtain ⟨g, hg⟩ : ∃ g, g = w.heap.size := ⟨_, rfl⟩
  have hgw : w.heap.size ≤ g := Nat.le_of_eq hg.symm
  rw [← hg] at BT ⊢
  clear hg
  go_wp2_with fail
  go_loopw [4] (fun i wr => ∃ (k : Nat) (LV : List Value), i = .int .i64 k ∧ k ≤ ls.length ∧ Acc w wr ∧ BlkT wr g 26 LV ∧ LV.length = ls.length * 4 ∧ LV.take (k * 4) = layC (ls.take k)) (fun i _ => ls.length - (intOf i).toNat)
  case atStart => exact ⟨0, LV, rfl, Nat.zero_le _, ‹Acc w _›, BT, hLV, by simp [layC]⟩
  case round =>
    clear BT hLV kaW1 LV
    obtain ⟨k, LV, rfl, hk, ka, BT, hLV, htk⟩ := hrel
    have HX := Lib.hid (And.intro BT (And.intro hLV htk))
    clear BT hLV htk
    by_cases hlt : k < ls.length
    ·
      obtain ⟨c, off, rfl, hc, hi, e0, e1, e2, e3⟩ := H.out.at hlt
      have HT : RowKit.Hid (ls.take (k + 1) = ls.take k ++ [ls[k]]) := Lib.hid (by rw [List.take_add_one, List.getElem?_eq_getElem hlt]; rfl)
      have HD : RowKit.Hid (ls.drop k = ls[k] :: ls.drop (k + 1)) := Lib.hid (List.drop_eq_getElem_cons hlt)
      have HM : RowKit.Hid (ls[k] ∈ ls) := Lib.hid (List.getElem_mem hlt)
      generalize ls[k] = x at hi e0 e1 e2 e3 HT HD HM
      obtain ⟨⟨n1, n2, n3⟩, q⟩ := x
      dsimp only at e0 e1 e2 e3
      have HC := Lib.hid fun (W : World) (ka : Acc w W) => And.intro ((ka.cell (p := ⟨c, off + k * 4, none⟩) hc).trans e0) (And.intro ((ka.cell (p := ⟨c, off + k * 4 + 1, none⟩) hc).trans e1) (And.intro ((ka.cell (p := ⟨c, off + k * 4 + 2, none⟩) hc).trans e2) ((ka.cell (p := ⟨c, off + k * 4 + 3, none⟩) hc).trans e3)))
      have hk1 : k + 1 ≤ ls.length := hlt
      have HI := Lib.hid hi
      clear hi e0 e1 e2 e3 hc
      obtain ⟨e0, e1, e2, e3⟩ := HC.out _ ka
      have hk0 : (0 : Int) ≤ (k : Int) := by omega
      have hk2 : (k : Int) < (ls.length : Int) := by omega
      go_wp2_with fail
      refine (toSection_any n1 n2 n3 q _).mono ?_
      rintro e W2 ⟨rfl, hb⟩
      have kaW2 : Acc w W2 := Acc.call ka hb
      have BT : BlkT W2 g 26 LV := HX.out.1.keep hb
      have HL := Lib.hid HX.out.2
      clear HX hb e0 e1 e2 e3
      go_wp2_with (refine wpList_store_mid rfl 26 (.tmp 21) (.tmp 20) rfl g (k * 4) #[.int .i64 n1, .int .i64 n2, .int .i64 n3, .int .i64 q] rfl rfl ?ht ?hi ?ho ?_)
      case ht => exact there_blkT BT (by have := HL.out.1; simp only [List.size_toArray, List.length_cons, List.length_nil]; omega)
      case hi => rfl
      case ho => exact oneInts [n1, n2, n3, q]
      go_roundw
      case rel =>
        refine ⟨k + 1, setL LV (k * 4) [.int .i64 n1, .int .i64 n2, .int .i64 n3, .int .i64 q], by go_num, hk1, Acc.setCells hgw _ _ _ kaW2, BlkT.setCells' [.int .i64 n1, .int .i64 n2, .int .i64 n3, .int .i64 q] (k * 4) W2 LV BT, ?_, ?_⟩
        · rw [setL_len]; exact HL.out.1
        · have e := setL_take (r := [.int .i64 n1, .int .i64 n2, .int .i64 n3, .int .i64 q]) (vs := LV) (o := k * 4) (by have := HL.out.1; simp only [List.length_cons, List.length_nil]; omega)
          rw [show (k + 1) * 4 = k * 4 + ([.int .i64 n1, .int .i64 n2, .int .i64 n3, .int .i64 q] : List Value).length by simp only [List.length_cons, List.length_nil]; omega, e, HL.out.2, HT.out, layC_append]
          rfl
      case measure => simp [intOf]; omega
    · obtain rfl : k = ls.length := by omega
      have e : LV = layC ls := by
        have e := HX.out.2.2
        rwa [List.take_of_length_le (Nat.le_of_eq HX.out.2.1), List.take_length] at e
      have BT := HX.out.1
      rw [e] at BT
      clear HX e
      go_wp2_with fail
      go_ret
      exact ⟨g, hgw, rfl, BT, ka⟩

set_option linter.unusedSimpArgs false
set_option maxRecDepth 100000 in
set_option maxHeartbeats 8000000 in
theorem eqSectionS_any (a b : Option Addr) (ls : List L4) (cap cap' : Nat) (w : World) (h : Lys w a ls) (h' : Lys w b ls) (hn : ls.length ≤ 1048576) : Calls Tryd.prog 15 #[.slice a ls.length cap, .slice b ls.length cap'] w fun e w' => e = .returned (.bool true) ∧ Below w.heap.size w w' := by
  have H := Lib.hid h
  have H' := Lib.hid h'
  clear h h'
  go_enter Tryd.func15, Tryd.ntmps15
  go_wp2_with fail
  go_loopw [5] (fun i wr => ∃ k : Nat, i = .int .i64 k ∧ k ≤ ls.length ∧ Acc w wr) (fun i _ => ls.length - (intOf i).toNat)
  case atStart => exact ⟨0, rfl, Nat.zero_le _, Acc.refl _⟩
  case round =>
    obtain ⟨k, rfl, hk, ka⟩ := hrel
    by_cases hlt : k < ls.length
    ·
      obtain ⟨c, off, rfl, hc, hi, e0, e1, e2, e3⟩ := H.out.at hlt
      obtain ⟨c', off', rfl, hc', -, f0, f1, f2, f3⟩ := H'.out.at hlt
      have hk1 : k + 1 ≤ ls.length := hlt
      have hk0 : (0 : Int) ≤ (k : Int) := by omega
      have hk2 : (k : Int) < (ls.length : Int) := by omega
      generalize ls[k] = x at hi e0 e1 e2 e3 f0 f1 f2 f3
      obtain ⟨⟨n1, n2, n3⟩, q⟩ := x
      dsimp only at e0 e1 e2 e3 f0 f1 f2 f3
      have HCC := Lib.hid fun (W : World) (ka : Acc w W) => And.intro ((ka.cell (p := ⟨c, off + k * 4, none⟩) hc).trans e0) (And.intro ((ka.cell (p := ⟨c, off + k * 4 + 1, none⟩) hc).trans e1) (And.intro ((ka.cell (p := ⟨c, off + k * 4 + 2, none⟩) hc).trans e2) (And.intro ((ka.cell (p := ⟨c, off + k * 4 + 3, none⟩) hc).trans e3) (And.intro ((ka.cell (p := ⟨c', off' + k * 4, none⟩) hc').trans f0) (And.intro ((ka.cell (p := ⟨c', off' + k * 4 + 1, none⟩) hc').trans f1) (And.intro ((ka.cell (p := ⟨c', off' + k * 4 + 2, none⟩) hc').trans f2) ((ka.cell (p := ⟨c', off' + k * 4 + 3, none⟩) hc').trans f3)))))))
      clear e0 e1 e2 e3 f0 f1 f2 f3
      obtain ⟨e0, e1, e2, e3, f0, f1, f2, f3⟩ := HCC.out _ ka
      clear hi hc hc' H H'
      go_upto_region 6 with fail
      go_region_held3 (fun w' => w'.cell? ⟨c, off + k * 4, none⟩ = some (.int .i64 n1) ∧ w'.cell? ⟨c, off + k * 4 + 1, none⟩ = some (.int .i64 n2) ∧ w'.cell? ⟨c, off + k * 4 + 2, none⟩ = some (.int .i64 n3) ∧ w'.cell? ⟨c, off + k * 4 + 3, none⟩ = some (.int .i64 q) ∧ w'.cell? ⟨c', off' + k * 4, none⟩ = some (.int .i64 n1) ∧ w'.cell? ⟨c', off' + k * 4 + 1, none⟩ = some (.int .i64 n2) ∧ w'.cell? ⟨c', off' + k * 4 + 2, none⟩ = some (.int .i64 n3) ∧ w'.cell? ⟨c', off' + k * 4 + 3, none⟩ = some (.int .i64 q))
        (((try dsimp only); (exact HCC.out _ (show Acc w _ by repeat' (first | (with_reducible first | assumption | exact Acc.refl _ | refine Acc.drew ?_ | refine Acc.drewN ?_ _ | refine Acc.alloc ?_ _ | refine Acc.setCell ?_ ?_ _) | (refine leB ?_; omega))))))
        (first | (go_at_call 32; refine (eqSection_any n1 n2 n3 q _).mono ?_; rintro e W1 ⟨rfl, hb⟩; have kaW1 : Acc w W1 := (Acc.call (show Acc w _ by repeat' (first | (with_reducible first | assumption | exact Acc.refl _ | refine Acc.drew ?_ | refine Acc.drewN ?_ _ | refine Acc.alloc ?_ _ | refine Acc.setCell ?_ ?_ _) | (refine leB ?_; omega))) hb); clear hb))
      all_goals
        go_wp2_with fail
        go_roundw
        case rel => exact ⟨k + 1, by go_num, hk1, ‹Acc w _›⟩
        case measure => simp [intOf]; omega
    · obtain rfl : k = ls.length := by omega
      go_wp2_with fail
      go_ret
      exact ⟨rfl, ka⟩
end Go.Proofs.YtkiggkmbgkonmabDoor
