/-
  The law FnFilm.
-/
import Derived.Test.YtkdkeacfifjjoabDoorDrawFilm2
import Derived.Test.YtkdkeacfifjjoabDoorFlmMath2
import Derived.Test.YtkdkeacfifjjoabDoorBMath
import Derived.Test.YtkdkeacfifjjoabDoorImplF4
import Derived.Test.YtkdkeacfifjjoabDoorSpecF2
import Derived.Test.YtkdkeacfifjjoabDoorEqVec
import Derived.Test.YtkdkeacfifjjoabDoorBLet
import Derived.Laws.AppendOwn
namespace Go.Proofs.YtkdkeacfifjjoabDoor
open Go.ChangeShapes Go.WideShapes Go.ChangeAt Go.RowKit
set_option linter.unusedVariables false

set_option linter.unusedSimpArgs false
/-- A drawn film. -/
def DrewF1 (w : World) (e : Ending) (w' : World) : Prop :=
  ∃ (g : Nat) (ls : List L4) (cap : Nat), e = .returned (.slice (some ⟨g, 0, none⟩) ls.length cap) ∧ CellsL w' g ls ∧ (∀ l ∈ ls, i64L l) ∧ ls.length ≤ 4 ∧ Below w.heap.size w w'
set_option maxHeartbeats 8000000 in
theorem drawFlVal_any (a : Option Addr) (len cap : Nat) (w : World) (h : Code8 w a len cap) :
    Calls Tryd.prog 4 #[.slice a len cap] w (DrewF1 w) := by
  have H0 := Lib.hid h
  clear h
  go_enter Tryd.func4, Tryd.ntmps4
  go_wp2_with fail
  refine (open_any a len cap _ H0.out).mono ?_
  rintro e W1 ⟨b, rfl, hb1, bel, hr⟩
  go_wp2_with fail
  refine (film_any b 0 _ hr (by omega)).mono ?_
  rintro e W2 ⟨v, ls, q, rfl, hnn, hown, hi4, hlen, ho, hq, hr2⟩
  obtain ⟨g, cap', rfl, hBg⟩ := own_some hown hnn
  have HC := Lib.hid (own_cells4 hown)
  have HI4 := Lib.hid hi4
  have ka : Below w.heap.size w W2 := Below.trans bel (ho.below bel.size hb1)
  clear hown hi4 hr hr2 ho bel hnn
  go_wp2_with fail
  go_ret
  exact ⟨g, ls, cap', rfl, HC.out, HI4.out, hlen, ka⟩
theorem Blk.grown {w w' : World} {b : Nat} {vs : List Value} {row : Option Nat} (h : Blk w b vs) (hg : w.grownBy w' row) (hne : row ≠ some b) : Blk w' b vs := by
  have l := h.lt
  obtain ⟨T, h⟩ := h
  exact ⟨T, (hg.block b l (fun e => hne e.symm)).trans h⟩
theorem addr_cells {w : World} {g : Nat} {xs : List Value} (h : ∀ (j : Nat) (u : Value), xs[j]? = some u → w.cell? ⟨g, j, none⟩ = some u) : ∀ (j : Nat) (u : Value), xs[j]? = some u → w.cell? ((⟨g, 0, none⟩ : Addr).add j) = some u := by
  intro j u hu
  have := h j u hu
  by_cases e : j = 0
  · subst e; simpa [Addr.add] using this
  · simpa [Addr.add, e] using this
theorem layC_one (ls : List L4) : ∀ u ∈ layC ls, u.oneCell' = true := by
  intro u hu
  unfold layC at hu
  obtain ⟨l, -, hu⟩ := List.mem_flatMap.1 hu
  simp at hu
  rcases hu with rfl | rfl | rfl | rfl <;> rfl
/-- A layer of no thickness. -/
def flatL : L4 := ((3, 0, 1), 0)
theorem okFl_flat {ls : List L4} (h : okFl ls = true) (hn : ls.length < 8) : okFl (ls ++ [flatL]) = true := by
  unfold okFl at h ⊢
  simp only [Bool.and_eq_true, decide_eq_true_eq] at h
  rw [List.all_append, h.1, List.length_append, decide_eq_true (show ls.length + [flatL].length ≤ 8 by simp; omega)]
  rfl
theorem flmM_flat {ls : List L4} (h : okFl ls = true) (hn : ls.length < 8) : flmM (ls ++ [flatL]) = flmM ls := by
  unfold flmM
  rw [if_pos h, if_pos (okFl_flat h hn), mulsM_append]
  cases e : mulsM oneM ls with
  | none => rfl
  | some B =>
    show mulsM B [flatL] = some B
    have hB := mulsM_okr (by decide) e
    show (layM flatL).bind _ = _
    rw [show layM flatL = some oneM from rfl, Option.bind_some, mul_one_r hB]
    rfl
theorem flmM_okr2 {ls : List L4} {A : F4} (h : flmM ls = some A) : okM A = true := by
  unfold flmM at h
  split at h
  · exact mulsM_okr (by decide) h
  · cases h
theorem own_len4 {w : World} {B : Nat} {e : TypeId} {v : Value} {ls : List L4} (h : w.ownsRow B e 4 v (ls.length + 1) (layC ls ++ [.int .i64 3, .int .i64 0, .int .i64 1, .int .i64 0])) : w.ownsRow B e 4 v (ls.length + [flatL].length) (layC ls ++ layC [flatL]) := h
set_option maxRecDepth 100000 in
set_option maxHeartbeats 32000000 in
theorem fnFilm_law (w : World) (hl : Laid w) (s : Option Addr) (len cap : Nat) (h : Code8 w s len cap) :
    Calls Tryd.prog 3 #[.slice s len cap] w (Fine w) := by
  have hm := h.2.1
  have hl' := h.1
  unfold maxLen at hm
  have HL := Lib.hid fun W (k : Acc w W) => hl.acc k
  clear hl
  obtain ⟨i0, hi0, hz0, hz1, hz2⟩ := info_parts info_layer
  by_cases hlen : 1048576 < len
  · clear h
    have hlen' : (1048576 : Int) < (len : Int) := by omega
    go_enter Tryd.func3, Tryd.ntmps3
    go_wp2_with fail
    go_ret
    exact ⟨rfl, Below.refl _ _⟩
  have hlen' : ¬ (1048576 : Int) < (len : Int) := by omega
  go_enter Tryd.func3, Tryd.ntmps3
  go_wp2_with fail
  refine (drawFlVal_any s len cap w h).mono ?_
  rintro e W0 ⟨g, ls, lc, rfl, hc, hi4, hle, hb⟩
  have kaW0 : Acc w W0 := hb
  have HC := Lib.hid fun W (k : Acc W0 W) => hc.keep k
  have HI := Lib.hid hi4
  have HW := Lib.hid kaW0
  clear hb h hc hi4
  have HV := Lib.hid fun (a' : Option Addr) (ms : List L4) (hm : ms.length ≤ 1048576) (c' : Nat) (W : World) (l : Lys W a' ms) (k : Acc w W) => implFlValid_any a' ms c' W l hm (HL.out W k)
  have HS := Lib.hid fun a' cap' W (l : Lys W a' ls) => specFlValid_any a' ls cap' W l (by omega)
  have hn : ls.length ≤ 1048576 := by omega
  have kaW0' : Acc W0 W0 := Acc.refl _
  cases hv : okFl ls with
  | false =>
    have HO := Lib.hid hv
    clear hv
    go_wp2_with fail
    refine (valid_at HO.out (HV.out _ _ hn _ _ ((HC.out _ (show Acc W0 _ by repeat' (first | (with_reducible first | assumption | exact Acc.refl _ | refine Acc.drew ?_ | refine Acc.drewN ?_ _ | refine Acc.alloc ?_ _ | refine Acc.setCell ?_ ?_ _) | (refine leB ?_; omega)))).lys HI.out) (Acc.call HW.out (show Acc W0 _ by repeat' (first | (with_reducible first | assumption | exact Acc.refl _ | refine Acc.drew ?_ | refine Acc.drewN ?_ _ | refine Acc.alloc ?_ _ | refine Acc.setCell ?_ ?_ _) | (refine leB ?_; omega)))))).mono ?_
    rintro e W1 ⟨rfl, hb⟩
    have kaW1 : Acc W0 W1 := by
      refine Acc.call ?_ hb
      (repeat' (first | (with_reducible first | assumption | exact Acc.refl _ | refine Acc.drew ?_ | refine Acc.drewN ?_ _ | refine Acc.alloc ?_ _ | refine Acc.setCell ?_ ?_ _) | (refine leB ?_; omega)))
    clear hb
    go_wp2_with fail
    refine (valid_at HO.out (HS.out _ _ _ ((HC.out _ (show Acc W0 _ by repeat' (first | (with_reducible first | assumption | exact Acc.refl _ | refine Acc.drew ?_ | refine Acc.drewN ?_ _ | refine Acc.alloc ?_ _ | refine Acc.setCell ?_ ?_ _) | (refine leB ?_; omega)))).lys HI.out))).mono ?_
    rintro e W2 ⟨rfl, hb⟩
    have kaW2 : Acc W0 W2 := by
      refine Acc.call ?_ hb
      (repeat' (first | (with_reducible first | assumption | exact Acc.refl _ | refine Acc.drew ?_ | refine Acc.drewN ?_ _ | refine Acc.alloc ?_ _ | refine Acc.setCell ?_ ?_ _) | (refine leB ?_; omega)))
    clear hb
    go_wp2_with fail
    go_ret
    refine ⟨by first | rfl | (simp [*]; done) | (simp [go_sem, *]; done), ?_⟩
    show Acc w _
    refine Acc.call HW.out (show Acc W0 _ from ?_)
    (repeat' (first | (with_reducible first | assumption | exact Acc.refl _ | refine Acc.drew ?_ | refine Acc.drewN ?_ _ | refine Acc.alloc ?_ _ | refine Acc.setCell ?_ ?_ _) | (refine leB ?_; omega)))
  | true =>
    have HO := Lib.hid hv
    clear hv
    have h8 : ((ls.length : Int) == 8) = false := by simp; omega
    have h8' : ¬ (ls.length : Int) = 8 := by omega
    have HEQ := Lib.hid (flmM_flat HO.out (by omega))
    have HOF := Lib.hid (okFl_flat HO.out (by omega))
    obtain ⟨m1, m2, m3, m4, m5, m6, m7, m8, m9, m10, m11, m12, kr, r1', r2', rv'⟩ := gave12_at (flmM ls)
    clear r1' r2'
    have HP := Lib.hid fun a' cap' W (l : Lys W a' ls) (k : Acc w W) => rv' _ _ _ W (implFlMat_any a' ls cap' W l (by omega) (HL.out W k))
    have HP2 := Lib.hid fun a' cap' W (l : Lys W a' (ls ++ [flatL])) (k : Acc w W) => rv' _ _ _ W (HEQ.out ▸ implFlMat_any a' (ls ++ [flatL]) cap' W l (by rw [List.length_append]; simp; omega) (HL.out W k) : Calls _ _ _ W (Gave12 (flmM ls) W))
    clear rv'
    have qe := eqMSame ((m1, m2, m3), (m4, m5, m6), (m7, m8, m9), (m10, m11, m12))
    dsimp only at qe
    go_wp2_with fail
    refine (valid_at HO.out (HV.out _ _ hn _ _ ((HC.out _ (show Acc W0 _ by repeat' (first | (with_reducible first | assumption | exact Acc.refl _ | refine Acc.drew ?_ | refine Acc.drewN ?_ _ | refine Acc.alloc ?_ _ | refine Acc.setCell ?_ ?_ _) | (refine leB ?_; omega)))).lys HI.out) (Acc.call HW.out (show Acc W0 _ by repeat' (first | (with_reducible first | assumption | exact Acc.refl _ | refine Acc.drew ?_ | refine Acc.drewN ?_ _ | refine Acc.alloc ?_ _ | refine Acc.setCell ?_ ?_ _) | (refine leB ?_; omega)))))).mono ?_
    rintro e W1 ⟨rfl, hb⟩
    have kaW1 : Acc W0 W1 := by
      refine Acc.call ?_ hb
      (repeat' (first | (with_reducible first | assumption | exact Acc.refl _ | refine Acc.drew ?_ | refine Acc.drewN ?_ _ | refine Acc.alloc ?_ _ | refine Acc.setCell ?_ ?_ _) | (refine leB ?_; omega)))
    clear hb
    go_wp2_with fail
    refine (valid_at HO.out (HS.out _ _ _ ((HC.out _ (show Acc W0 _ by repeat' (first | (with_reducible first | assumption | exact Acc.refl _ | refine Acc.drew ?_ | refine Acc.drewN ?_ _ | refine Acc.alloc ?_ _ | refine Acc.setCell ?_ ?_ _) | (refine leB ?_; omega)))).lys HI.out))).mono ?_
    rintro e W2 ⟨rfl, hb⟩
    have kaW2 : Acc W0 W2 := by
      refine Acc.call ?_ hb
      (repeat' (first | (with_reducible first | assumption | exact Acc.refl _ | refine Acc.drew ?_ | refine Acc.drewN ?_ _ | refine Acc.alloc ?_ _ | refine Acc.setCell ?_ ?_ _) | (refine leB ?_; omega)))
    clear hb
    have OE : (W2.alloc (.cells #[] 29)).ownsRow W2.heap.size 29 4 (.slice (some ⟨W2.heap.size, 0, none⟩) 0 0) 0 [] := by
      simpa using World.ownsRow_made (base := W2.heap.size) (e := 29) (size := 4) W2 #[] 0 (by simp) (by decide) rfl
    have lw0 : W0.heap.size ≤ W2.heap.size := kaW2.size
    go_wp2_with (first | (at_builtin; refine wpList_append_own _ rfl _ _ 23 rfl W2.heap.size 29 i0 (.agg #[.int .i64 0, .int .i64 0, .int .i64 0, .int .i64 0]) 4 32 Tryd.underlying23 hi0 hz0 hz1 hz2 rfl (by decide) _ _ _ rfl (OE) ⟨g, 0, none⟩ ls.length lc (layC ls) rfl (layC_len ls) ?c1 ?c2 ?c3 ?c4 ?c5 ?_) | fail)
    case c1 => exact addr_cells (HC.out _ (show Acc W0 _ by repeat' (first | (with_reducible first | assumption | exact Acc.refl _ | refine Acc.drew ?_ | refine Acc.drewN ?_ _ | refine Acc.alloc ?_ _ | refine Acc.setCell ?_ ?_ _) | (refine leB ?_; omega)))).2
    case c2 => exact layC_one ls
    case c3 => unfold maxLen; omega
    case c4 => omega
    case c5 => first | omega | (simp; done) | (simp; omega)
    intro v1 w1 hown1 hgrow1 hnil1
    have kaw1 : Acc W0 w1 := Below.grown (show Acc W0 _ by repeat' (first | (with_reducible first | assumption | exact Acc.refl _ | refine Acc.drew ?_ | refine Acc.drewN ?_ _ | refine Acc.alloc ?_ _ | refine Acc.setCell ?_ ?_ _) | (refine leB ?_; omega))) hgrow1 (show Acc W0 _ by repeat' (first | (with_reducible first | assumption | exact Acc.refl _ | refine Acc.drew ?_ | refine Acc.drewN ?_ _ | refine Acc.alloc ?_ _ | refine Acc.setCell ?_ ?_ _) | (refine leB ?_; omega))).size (fun k hk => by have := own_row OE hk; omega)
    have lsw1 := hgrow1.size
    try simp at lsw1
    have O1 := Lib.hid hown1
    clear hgrow1 hnil1 OE hown1
    go_wp2_with (first | (at_builtin; refine wpList_append_own _ rfl _ _ 23 rfl W2.heap.size 29 i0 (.agg #[.int .i64 0, .int .i64 0, .int .i64 0, .int .i64 0]) 4 32 Tryd.underlying23 hi0 hz0 hz1 hz2 rfl (by decide) _ _ _ rfl (own_from O1.out ((Below.refl _ _).alloc (Nat.le_refl _) _)) ⟨w1.heap.size, 0, none⟩ 1 1 ([.int .i64 3, .int .i64 0, .int .i64 1, .int .i64 0]) rfl (rfl) ?c1 ?c2 ?c3 ?c4 ?c5 ?_) | fail)
    case c1 =>
      intro j u hj
      match j, hj with
      | 0, hj => simp at hj; subst hj; simp [Addr.add]
      | 1, hj => simp at hj; subst hj; simp [Addr.add]
      | 2, hj => simp at hj; subst hj; simp [Addr.add]
      | 3, hj => simp at hj; subst hj; simp [Addr.add]
    case c2 => intro u hu; simp at hu; rcases hu with rfl | rfl | rfl | rfl <;> rfl
    case c3 => unfold maxLen; omega
    case c4 => omega
    case c5 => first | omega | (simp; done) | (simp; omega)
    intro v2 w2 hown2 hgrow2 hnil2
    have O1' := own_from O1.out ((Below.refl w1.heap.size w1).alloc (Nat.le_refl _) (.cells #[.int .i64 3, .int .i64 0, .int .i64 1, .int .i64 0] 29))
    have kaw2 : Acc W0 w2 := Below.grown (show Acc W0 _ by repeat' (first | (with_reducible first | assumption | exact Acc.refl _ | refine Acc.drew ?_ | refine Acc.drewN ?_ _ | refine Acc.alloc ?_ _ | refine Acc.setCell ?_ ?_ _) | (refine leB ?_; omega))) hgrow2 (show Acc W0 _ by repeat' (first | (with_reducible first | assumption | exact Acc.refl _ | refine Acc.drew ?_ | refine Acc.drewN ?_ _ | refine Acc.alloc ?_ _ | refine Acc.setCell ?_ ?_ _) | (refine leB ?_; omega))).size (fun k hk => by have := own_row O1' hk; omega)
    have lsw2 := hgrow2.size
    try simp at lsw2
    have hown3 : w2.ownsRow W2.heap.size 29 4 v2 (ls ++ [flatL]).length (layC (ls ++ [flatL])) := by
      rw [List.length_append, layC_append]
      exact own_len4 hown2
    obtain ⟨a2, c2, rfl, hL2⟩ := lys_of_own (fun l hl => by
      rcases List.mem_append.1 hl with hl | hl
      · exact HI.out l hl
      · rw [List.mem_singleton.1 hl]
        show i64B 3 ∧ i64B 0 ∧ i64B 1 ∧ i64B 0
        unfold i64B
        omega) hown3
    have hlen2 : (ls ++ [flatL]).length = ls.length + 1 := by rw [List.length_append]; rfl
    have hl9 : ls.length + 1 ≤ 1048576 := by omega
    have HL2 := Lib.hid fun W (k : Acc w2 W) => hL2.keep k
    clear hgrow2 hnil2 hown2 hown3 O1' hL2
    have kaw2' : Acc w2 w2 := Acc.refl _
    have HV2 := Lib.hid fun (W : World) (l : Lys W a2 (ls ++ [flatL])) (k : Acc w W) => HV.out a2 (ls ++ [flatL]) (by rw [hlen2]; exact hl9) c2 W l k
    have HP3 := Lib.hid fun (W : World) (l : Lys W a2 (ls ++ [flatL])) (k : Acc w W) => HP2.out a2 c2 W l k
    rw [hlen2] at HV2 HP3
    clear hlen2 HP2
    go_wp2_with fail
    refine (HP.out _ _ _ ((HC.out _ (show Acc W0 _ by repeat' (first | (with_reducible first | assumption | exact Acc.refl _ | refine Acc.drew ?_ | refine Acc.drewN ?_ _ | refine Acc.alloc ?_ _ | refine Acc.setCell ?_ ?_ _) | (refine leB ?_; omega)))).lys HI.out) (Acc.call HW.out (show Acc W0 _ by repeat' (first | (with_reducible first | assumption | exact Acc.refl _ | refine Acc.drew ?_ | refine Acc.drewN ?_ _ | refine Acc.alloc ?_ _ | refine Acc.setCell ?_ ?_ _) | (refine leB ?_; omega))))).mono ?_
    rintro e W3 ⟨rfl, hb⟩
    have kzW3 : Acc w2 W3 := Acc.call (show Acc w2 _ by repeat' (first | (with_reducible first | assumption | exact Acc.refl _ | refine Acc.drew ?_ | refine Acc.drewN ?_ _ | refine Acc.alloc ?_ _ | refine Acc.setCell ?_ ?_ _) | (refine leB ?_; omega))) hb
    have kaW3 : Acc W0 W3 := by
      refine Acc.call ?_ hb
      (repeat' (first | (with_reducible first | assumption | exact Acc.refl _ | refine Acc.drew ?_ | refine Acc.drewN ?_ _ | refine Acc.alloc ?_ _ | refine Acc.setCell ?_ ?_ _) | (refine leB ?_; omega)))
    clear hb
    go_wp2_with fail
    refine (HP3.out _ (HL2.out _ (show Acc w2 _ by repeat' (first | (with_reducible first | assumption | exact Acc.refl _ | refine Acc.drew ?_ | refine Acc.drewN ?_ _ | refine Acc.alloc ?_ _ | refine Acc.setCell ?_ ?_ _) | (refine leB ?_; omega)))) (Acc.call HW.out (show Acc W0 _ by repeat' (first | (with_reducible first | assumption | exact Acc.refl _ | refine Acc.drew ?_ | refine Acc.drewN ?_ _ | refine Acc.alloc ?_ _ | refine Acc.setCell ?_ ?_ _) | (refine leB ?_; omega))))).mono ?_
    rintro e W4 ⟨rfl, hb⟩
    have kzW4 : Acc w2 W4 := Acc.call (show Acc w2 _ by repeat' (first | (with_reducible first | assumption | exact Acc.refl _ | refine Acc.drew ?_ | refine Acc.drewN ?_ _ | refine Acc.alloc ?_ _ | refine Acc.setCell ?_ ?_ _) | (refine leB ?_; omega))) hb
    have Bx : Blk W4 (W3.heap.size) [.int .i64 m1, .int .i64 m2, .int .i64 m3, .int .i64 m4, .int .i64 m5, .int .i64 m6, .int .i64 m7, .int .i64 m8, .int .i64 m9, .int .i64 m10, .int .i64 m11, .int .i64 m12] := Blk.keep hb (by repeat' (first | (with_reducible first | assumption | refine Blk.drew ?_ | refine Blk.drewN ?_ _ | apply Blk.set | (refine Blk.new ?_; focus (first | rfl | (simp; done))) | refine Blk.alloc ?_ _ | refine Blk.other ?_ ?_ _) | exact eqL rfl | (refine neB ?_; omega)))
    have cx := Bx.cell
    have fx := Bx.free
    have lx_W4 := Bx.lt
    have kaW4 : Acc W0 W4 := by
      refine Acc.call ?_ hb
      (repeat' (first | (with_reducible first | assumption | exact Acc.refl _ | refine Acc.drew ?_ | refine Acc.drewN ?_ _ | refine Acc.alloc ?_ _ | refine Acc.setCell ?_ ?_ _) | (refine leB ?_; omega)))
    clear hb
    go_wp2_with fail
    refine (valid_at HOF.out (HV2.out _ (HL2.out _ (show Acc w2 _ by repeat' (first | (with_reducible first | assumption | exact Acc.refl _ | refine Acc.drew ?_ | refine Acc.drewN ?_ _ | refine Acc.alloc ?_ _ | refine Acc.setCell ?_ ?_ _) | (refine leB ?_; omega)))) (Acc.call HW.out (show Acc W0 _ by repeat' (first | (with_reducible first | assumption | exact Acc.refl _ | refine Acc.drew ?_ | refine Acc.drewN ?_ _ | refine Acc.alloc ?_ _ | refine Acc.setCell ?_ ?_ _) | (refine leB ?_; omega)))))).mono ?_
    rintro e W5 ⟨rfl, hb⟩
    have kzW5 : Acc w2 W5 := Acc.call (show Acc w2 _ by repeat' (first | (with_reducible first | assumption | exact Acc.refl _ | refine Acc.drew ?_ | refine Acc.drewN ?_ _ | refine Acc.alloc ?_ _ | refine Acc.setCell ?_ ?_ _) | (refine leB ?_; omega))) hb
    obtain ⟨Bx, By⟩ : Blk W5 (W3.heap.size) [.int .i64 m1, .int .i64 m2, .int .i64 m3, .int .i64 m4, .int .i64 m5, .int .i64 m6, .int .i64 m7, .int .i64 m8, .int .i64 m9, .int .i64 m10, .int .i64 m11, .int .i64 m12] ∧ Blk W5 (W4.heap.size) [.int .i64 m1, .int .i64 m2, .int .i64 m3, .int .i64 m4, .int .i64 m5, .int .i64 m6, .int .i64 m7, .int .i64 m8, .int .i64 m9, .int .i64 m10, .int .i64 m11, .int .i64 m12] := by
      refine ⟨?_, ?_⟩ <;> refine Blk.keep hb ?_ <;> (repeat' (first | (with_reducible first | assumption | refine Blk.drew ?_ | refine Blk.drewN ?_ _ | apply Blk.set | (refine Blk.new ?_; focus (first | rfl | (simp; done))) | refine Blk.alloc ?_ _ | refine Blk.other ?_ ?_ _) | exact eqL rfl | (refine neB ?_; omega)))
    have cx := Bx.cell
    have fx := Bx.free
    have lx_W5 := Bx.lt
    have cy := By.cell
    have fy := By.free
    have ly_W5 := By.lt
    have kaW5 : Acc W0 W5 := by
      refine Acc.call ?_ hb
      (repeat' (first | (with_reducible first | assumption | exact Acc.refl _ | refine Acc.drew ?_ | refine Acc.drewN ?_ _ | refine Acc.alloc ?_ _ | refine Acc.setCell ?_ ?_ _) | (refine leB ?_; omega)))
    clear hb
    cases kr with
    | false =>
      go_wp2_with fail
      go_ret
      refine ⟨by first | rfl | (simp [*]; done) | (simp [go_sem, *]; done), ?_⟩
      show Acc w _
      refine Acc.call HW.out (show Acc W0 _ from ?_)
      (repeat' (first | (with_reducible first | assumption | exact Acc.refl _ | refine Acc.drew ?_ | refine Acc.drewN ?_ _ | refine Acc.alloc ?_ _ | refine Acc.setCell ?_ ?_ _) | (refine leB ?_; omega)))
    | true =>
      go_wp2_with fail
      go_ret
      refine ⟨by first | rfl | (simp [*]; done) | (simp [go_sem, *]; done), ?_⟩
      show Acc w _
      refine Acc.call HW.out (show Acc W0 _ from ?_)
      (repeat' (first | (with_reducible first | assumption | exact Acc.refl _ | refine Acc.drew ?_ | refine Acc.drewN ?_ _ | refine Acc.alloc ?_ _ | refine Acc.setCell ?_ ?_ _) | (refine leB ?_; omega)))
end Go.Proofs.YtkdkeacfifjjoabDoor
