/-
  The law FnReflected.
-/
import Derived.Test.YtdagcjohpmolpaaGreatDoorDrawFilm2
import Derived.Test.YtdagcjohpmolpaaGreatDoorFlmMath2
import Derived.Test.YtdagcjohpmolpaaGreatDoorImplF7
import Derived.Test.YtdagcjohpmolpaaGreatDoorSpecF4
import Derived.Test.YtdagcjohpmolpaaGreatDoorEqVec
import Derived.Laws.AppendOwn
namespace Go.Proofs.YtdagcjohpmolpaaGreatDoor
open Go.ChangeShapes Go.WideShapes Go.ChangeAt Go.RowKit
set_option linter.unusedVariables false

set_option linter.unusedSimpArgs false
theorem Blk.grown {w w' : World} {b : Nat} {vs : List Value} {row : Option Nat} (h : Blk w b vs) (hg : w.grownBy w' row) (hne : row ≠ some b) : Blk w' b vs := by
  have l := h.lt
  obtain ⟨T, h⟩ := h
  exact ⟨T, (hg.block b l (fun e => hne e.symm)).trans h⟩
theorem addr_cells {w : World} {g : Nat} {xs : List Value} (h : ∀ (j : Nat) (u : Value), xs[j]? = some u → w.cell? ⟨g, j, none⟩ = some u) : ∀ (j : Nat) (u : Value), xs[j]? = some u → w.cell? ((⟨g, 0, none⟩ : Addr).add j) = some u := by
  intro j u hu
  have := h j u hu
  by_cases e : j = 0
  · subst e; simpa [Addr.add] using this
  · simpa [Addr.add, e] using this
theorem layC_one (ls : List L4) : ∀ u ∈ layC ls, u.oneCell' = true := by
  intro u hu
  unfold layC at hu
  obtain ⟨l, -, hu⟩ := List.mem_flatMap.1 hu
  simp at hu
  rcases hu with rfl | rfl | rfl | rfl <;> rfl
theorem own_len3 {w : World} {B : Nat} {e : TypeId} {v : Value} {ls : List L4} (h : w.ownsRow B e 4 v (ls.length + 1) (layC ls ++ [.int .i64 5, .int .i64 0, .int .i64 2, .int .i64 2])) : w.ownsRow B e 4 v (ls.length + [halfL].length) (layC ls ++ layC [halfL]) := h
theorem eqSelf (a b c : Int) (w : World) : (Op.equalIn 10000 26 (.agg #[.int .i64 a, .int .i64 b, .int .i64 c]) (.agg #[.int .i64 a, .int .i64 b, .int .i64 c])).run Tryz.prog w = .ok true w := (eqFr 9998 a b c a b c w).trans (by simp)
set_option maxRecDepth 100000 in
set_option maxHeartbeats 32000000 in
theorem fnReflected_law (w : World) (hl : Laid w) (s : Option Addr) (len cap : Nat) (h : Code8 w s len cap) :
    Calls Tryz.prog 6 #[.slice s len cap] w (Fine w) := by
  have hm := h.2.1
  have hl' := h.1
  unfold maxLen at hm
  have HL := Lib.hid fun W (k : Acc w W) => hl.acc k
  clear hl
  obtain ⟨i0, hi0, hz0, hz1, hz2⟩ := info_parts info_layer
  by_cases hlen : 1048576 < len
  · clear h
    have hlen' : (1048576 : Int) < (len : Int) := by omega
    go_enter Tryz.func6, Tryz.ntmps6
    go_wp2_with fail
    go_ret
    exact ⟨rfl, Below.refl _ _⟩
  have hlen' : ¬ (1048576 : Int) < (len : Int) := by omega
  go_enter Tryz.func6, Tryz.ntmps6
  go_wp2_with fail
  refine (drawRef_any s len cap w h).mono ?_
  rintro e W0 ⟨g, ls, lc, x1, x2, x3, y1, y2, y3, rfl, hc, hwg, hi4, hle, hxi, hyi, hb⟩
  have kaW0 : Acc w W0 := hb
  have HC := Lib.hid fun W (k : Acc W0 W) => hc.keep k
  have HI := Lib.hid hi4
  have HW := Lib.hid kaW0
  clear hb h hc hi4 hwg
  obtain ⟨hx1, hx2, hx3⟩ := hxi
  obtain ⟨hy1, hy2, hy3⟩ := hyi
  obtain ⟨⟨r1, r2, r3⟩, hv⟩ : ∃ o, partsR (refM ls (x1, x2, x3) (y1, y2, y3)) = o := ⟨_, rfl⟩
  obtain ⟨kr, hk⟩ : ∃ k, okR (refM ls (x1, x2, x3) (y1, y2, y3)) = k := ⟨_, rfl⟩
  have Cr := Lib.hid hv
  have Dr := Lib.hid hk
  clear hv hk
  have HP := Lib.hid fun a' cap' ms W (hm : ms.length ≤ 8) (l : Lys W a' ms) (k : Acc w W) => implFlRef_any a' ms cap' x1 x2 x3 y1 y2 y3 hx1 hx2 hx3 hy1 hy2 hy3 W l (by omega) (HL.out W k)
  have HS := Lib.hid fun a' cap' W (l : Lys W a' ls) => specFlRef_any a' ls cap' x1 x2 x3 y1 y2 y3 W l (by omega)
  clear hx1 hx2 hx3 hy1 hy2 hy3
  have qe := eqSelf r1 r2 r3
  have kaW0' : Acc W0 W0 := Acc.refl _
  go_wp2_with fail
  refine (gave_any Cr.out Dr.out (HP.out _ _ ls _ (by omega) ((HC.out _ (show Acc W0 _ by repeat' (first | (with_reducible first | assumption | exact Acc.refl _ | refine Acc.drew ?_ | refine Acc.drewN ?_ _ | refine Acc.alloc ?_ _ | refine Acc.setCell ?_ ?_ _) | (refine leB ?_; omega)))).lys HI.out) (Acc.call HW.out (show Acc W0 _ by repeat' (first | (with_reducible first | assumption | exact Acc.refl _ | refine Acc.drew ?_ | refine Acc.drewN ?_ _ | refine Acc.alloc ?_ _ | refine Acc.setCell ?_ ?_ _) | (refine leB ?_; omega)))))).mono ?_
  rintro e W1 ⟨rfl, hb⟩
  obtain ⟨Ba, Bb⟩ : Blk W1 (W0.heap.size) [.int .i64 x1, .int .i64 x2, .int .i64 x3] ∧ Blk W1 (W0.heap.size + 1) [.int .i64 y1, .int .i64 y2, .int .i64 y3] := by
    refine ⟨?_, ?_⟩ <;> refine Blk.keep hb ?_ <;> (repeat' (first | (with_reducible first | assumption | refine Blk.drew ?_ | refine Blk.drewN ?_ _ | apply Blk.set | (refine Blk.new ?_; focus (first | rfl | (simp; done))) | refine Blk.alloc ?_ _ | refine Blk.other ?_ ?_ _) | exact eqL rfl | (refine neB ?_; omega)))
  have ca := Ba.cell
  have fa := Ba.free
  have la_W1 := Ba.lt
  have cb := Bb.cell
  have fb := Bb.free
  have lb_W1 := Bb.lt
  have kaW1 : Acc W0 W1 := by
    refine Acc.call ?_ hb
    (repeat' (first | (with_reducible first | assumption | exact Acc.refl _ | refine Acc.drew ?_ | refine Acc.drewN ?_ _ | refine Acc.alloc ?_ _ | refine Acc.setCell ?_ ?_ _) | (refine leB ?_; omega)))
  clear hb
  go_wp2_with fail
  refine (gave_any Cr.out Dr.out (HS.out _ _ _ ((HC.out _ (show Acc W0 _ by repeat' (first | (with_reducible first | assumption | exact Acc.refl _ | refine Acc.drew ?_ | refine Acc.drewN ?_ _ | refine Acc.alloc ?_ _ | refine Acc.setCell ?_ ?_ _) | (refine leB ?_; omega)))).lys HI.out))).mono ?_
  rintro e W2 ⟨rfl, hb⟩
  obtain ⟨Ba, Bb, Bo⟩ : Blk W2 (W0.heap.size) [.int .i64 x1, .int .i64 x2, .int .i64 x3] ∧ Blk W2 (W0.heap.size + 1) [.int .i64 y1, .int .i64 y2, .int .i64 y3] ∧ Blk W2 (W1.heap.size) [.int .i64 r1, .int .i64 r2, .int .i64 r3] := by
    refine ⟨?_, ?_, ?_⟩ <;> refine Blk.keep hb ?_ <;> (repeat' (first | (with_reducible first | assumption | refine Blk.drew ?_ | refine Blk.drewN ?_ _ | apply Blk.set | (refine Blk.new ?_; focus (first | rfl | (simp; done))) | refine Blk.alloc ?_ _ | refine Blk.other ?_ ?_ _) | exact eqL rfl | (refine neB ?_; omega)))
  have ca := Ba.cell
  have fa := Ba.free
  have la_W2 := Ba.lt
  have cb := Bb.cell
  have fb := Bb.free
  have lb_W2 := Bb.lt
  have co := Bo.cell
  have fo := Bo.free
  have lo_W2 := Bo.lt
  have kaW2 : Acc W0 W2 := by
    refine Acc.call ?_ hb
    (repeat' (first | (with_reducible first | assumption | exact Acc.refl _ | refine Acc.drew ?_ | refine Acc.drewN ?_ _ | refine Acc.alloc ?_ _ | refine Acc.setCell ?_ ?_ _) | (refine leB ?_; omega)))
  clear hb
  cases kr with
  | false =>
    go_wp2_with fail
    go_ret
    refine ⟨rfl, ?_⟩
    show Acc w _
    refine Acc.call HW.out (show Acc W0 _ from ?_)
    (repeat' (first | (with_reducible first | assumption | exact Acc.refl _ | refine Acc.drew ?_ | refine Acc.drewN ?_ _ | refine Acc.alloc ?_ _ | refine Acc.setCell ?_ ?_ _) | (refine leB ?_; omega)))
  | true =>
    have h8 : ((ls.length : Int) == 8) = false := by simp; omega
    have h8' : ¬ (ls.length : Int) = 8 := by omega
    have OE : ((W2.alloc (.cells #[.int .i64 r1, .int .i64 r2, .int .i64 r3] 26)).alloc (.cells #[] 41)).ownsRow (W2.heap.size + 1) 41 4 (.slice (some ⟨W2.heap.size + 1, 0, none⟩) 0 0) 0 [] := by
      simpa using World.ownsRow_made (base := W2.heap.size + 1) (e := 41) (size := 4) (W2.alloc (.cells #[.int .i64 r1, .int .i64 r2, .int .i64 r3] 26)) #[] 0 (by simp) (by decide) rfl
    have lw0 : W0.heap.size ≤ W2.heap.size := kaW2.size
    go_wp2_with (first | (at_builtin; refine wpList_append_own _ rfl _ _ 29 rfl (W2.heap.size + 1) 41 i0 (.agg #[.int .i64 0, .int .i64 0, .int .i64 0, .int .i64 0]) 4 32 Tryz.underlying29 hi0 hz0 hz1 hz2 rfl (by decide) _ _ _ rfl (OE) ⟨g, 0, none⟩ ls.length lc (layC ls) rfl (layC_len ls) ?c1 ?c2 ?c3 ?c4 ?c5 ?_) | fail)
    case c1 => exact addr_cells (HC.out _ (show Acc W0 _ by repeat' (first | (with_reducible first | assumption | exact Acc.refl _ | refine Acc.drew ?_ | refine Acc.drewN ?_ _ | refine Acc.alloc ?_ _ | refine Acc.setCell ?_ ?_ _) | (refine leB ?_; omega)))).2
    case c2 => exact layC_one ls
    case c3 => unfold maxLen; omega
    case c4 => omega
    case c5 => first | omega | (simp; done) | (simp; omega)
    intro v1 w1 hown1 hgrow1 hnil1
    have Ba : Blk w1 (W0.heap.size) [.int .i64 x1, .int .i64 x2, .int .i64 x3] := Blk.grown (by repeat' (first | (with_reducible first | assumption | refine Blk.drew ?_ | refine Blk.drewN ?_ _ | apply Blk.set | (refine Blk.new ?_; focus (first | rfl | (simp; done))) | refine Blk.alloc ?_ _ | refine Blk.other ?_ ?_ _) | exact eqL rfl | (refine neB ?_; omega))) hgrow1 (fun e => by have := own_row OE e; omega)
    have Bb : Blk w1 (W0.heap.size + 1) [.int .i64 y1, .int .i64 y2, .int .i64 y3] := Blk.grown (by repeat' (first | (with_reducible first | assumption | refine Blk.drew ?_ | refine Blk.drewN ?_ _ | apply Blk.set | (refine Blk.new ?_; focus (first | rfl | (simp; done))) | refine Blk.alloc ?_ _ | refine Blk.other ?_ ?_ _) | exact eqL rfl | (refine neB ?_; omega))) hgrow1 (fun e => by have := own_row OE e; omega)
    have Bo : Blk w1 (W1.heap.size) [.int .i64 r1, .int .i64 r2, .int .i64 r3] := Blk.grown (by repeat' (first | (with_reducible first | assumption | refine Blk.drew ?_ | refine Blk.drewN ?_ _ | apply Blk.set | (refine Blk.new ?_; focus (first | rfl | (simp; done))) | refine Blk.alloc ?_ _ | refine Blk.other ?_ ?_ _) | exact eqL rfl | (refine neB ?_; omega))) hgrow1 (fun e => by have := own_row OE e; omega)
    have ca := Ba.cell
    have fa := Ba.free
    have la_w1 := Ba.lt
    have cb := Bb.cell
    have fb := Bb.free
    have lb_w1 := Bb.lt
    have co := Bo.cell
    have fo := Bo.free
    have lo_w1 := Bo.lt
    have kaw1 : Acc W0 w1 := Below.grown (show Acc W0 _ by repeat' (first | (with_reducible first | assumption | exact Acc.refl _ | refine Acc.drew ?_ | refine Acc.drewN ?_ _ | refine Acc.alloc ?_ _ | refine Acc.setCell ?_ ?_ _) | (refine leB ?_; omega))) hgrow1 (show Acc W0 _ by repeat' (first | (with_reducible first | assumption | exact Acc.refl _ | refine Acc.drew ?_ | refine Acc.drewN ?_ _ | refine Acc.alloc ?_ _ | refine Acc.setCell ?_ ?_ _) | (refine leB ?_; omega))).size (fun k hk => by have := own_row OE hk; omega)
    have lsw1 := hgrow1.size
    try simp at lsw1
    have O1 := Lib.hid hown1
    clear hgrow1 hnil1 OE hown1
    go_wp2_with (first | (at_builtin; refine wpList_append_own _ rfl _ _ 29 rfl (W2.heap.size + 1) 41 i0 (.agg #[.int .i64 0, .int .i64 0, .int .i64 0, .int .i64 0]) 4 32 Tryz.underlying29 hi0 hz0 hz1 hz2 rfl (by decide) _ _ _ rfl (own_from O1.out ((Below.refl _ _).alloc (Nat.le_refl _) _)) ⟨w1.heap.size, 0, none⟩ 1 1 ([.int .i64 5, .int .i64 0, .int .i64 2, .int .i64 2]) rfl (rfl) ?c1 ?c2 ?c3 ?c4 ?c5 ?_) | fail)
    case c1 =>
      intro j u hj
      match j, hj with
      | 0, hj => simp at hj; subst hj; simp [Addr.add]
      | 1, hj => simp at hj; subst hj; simp [Addr.add]
      | 2, hj => simp at hj; subst hj; simp [Addr.add]
      | 3, hj => simp at hj; subst hj; simp [Addr.add]
    case c2 => intro u hu; simp at hu; rcases hu with rfl | rfl | rfl | rfl <;> rfl
    case c3 => unfold maxLen; omega
    case c4 => omega
    case c5 => first | omega | (simp; done) | (simp; omega)
    intro v2 w2 hown2 hgrow2 hnil2
    have O1' := own_from O1.out ((Below.refl w1.heap.size w1).alloc (Nat.le_refl _) (.cells #[.int .i64 5, .int .i64 0, .int .i64 2, .int .i64 2] 41))
    have Ba : Blk w2 (W0.heap.size) [.int .i64 x1, .int .i64 x2, .int .i64 x3] := Blk.grown (by repeat' (first | (with_reducible first | assumption | refine Blk.drew ?_ | refine Blk.drewN ?_ _ | apply Blk.set | (refine Blk.new ?_; focus (first | rfl | (simp; done))) | refine Blk.alloc ?_ _ | refine Blk.other ?_ ?_ _) | exact eqL rfl | (refine neB ?_; omega))) hgrow2 (fun e => by have := own_row O1' e; omega)
    have Bb : Blk w2 (W0.heap.size + 1) [.int .i64 y1, .int .i64 y2, .int .i64 y3] := Blk.grown (by repeat' (first | (with_reducible first | assumption | refine Blk.drew ?_ | refine Blk.drewN ?_ _ | apply Blk.set | (refine Blk.new ?_; focus (first | rfl | (simp; done))) | refine Blk.alloc ?_ _ | refine Blk.other ?_ ?_ _) | exact eqL rfl | (refine neB ?_; omega))) hgrow2 (fun e => by have := own_row O1' e; omega)
    have Bo : Blk w2 (W1.heap.size) [.int .i64 r1, .int .i64 r2, .int .i64 r3] := Blk.grown (by repeat' (first | (with_reducible first | assumption | refine Blk.drew ?_ | refine Blk.drewN ?_ _ | apply Blk.set | (refine Blk.new ?_; focus (first | rfl | (simp; done))) | refine Blk.alloc ?_ _ | refine Blk.other ?_ ?_ _) | exact eqL rfl | (refine neB ?_; omega))) hgrow2 (fun e => by have := own_row O1' e; omega)
    have ca := Ba.cell
    have fa := Ba.free
    have la_w2 := Ba.lt
    have cb := Bb.cell
    have fb := Bb.free
    have lb_w2 := Bb.lt
    have co := Bo.cell
    have fo := Bo.free
    have lo_w2 := Bo.lt
    have kaw2 : Acc W0 w2 := Below.grown (show Acc W0 _ by repeat' (first | (with_reducible first | assumption | exact Acc.refl _ | refine Acc.drew ?_ | refine Acc.drewN ?_ _ | refine Acc.alloc ?_ _ | refine Acc.setCell ?_ ?_ _) | (refine leB ?_; omega))) hgrow2 (show Acc W0 _ by repeat' (first | (with_reducible first | assumption | exact Acc.refl _ | refine Acc.drew ?_ | refine Acc.drewN ?_ _ | refine Acc.alloc ?_ _ | refine Acc.setCell ?_ ?_ _) | (refine leB ?_; omega))).size (fun k hk => by have := own_row O1' hk; omega)
    have lsw2 := hgrow2.size
    try simp at lsw2
    have hown3 : w2.ownsRow (W2.heap.size + 1) 41 4 v2 (ls ++ [halfL]).length (layC (ls ++ [halfL])) := by
      rw [List.length_append, layC_append]
      exact own_len3 hown2
    obtain ⟨a2, c2, rfl, hL2⟩ := lys_of_own (fun l hl => by
      rcases List.mem_append.1 hl with hl | hl
      · exact HI.out l hl
      · rw [List.mem_singleton.1 hl]
        show i64B 5 ∧ i64B 0 ∧ i64B 2 ∧ i64B 2
        unfold i64B
        omega) hown3
    have HR2 := Lib.hid (refM_half (some_of Cr.out Dr.out) (show ls.length < 8 by omega))
    have HL2 := Lib.hid hL2
    clear hgrow2 hnil2 hown2 hown3 O1' hL2
    have hl9 : (ls ++ [halfL]).length ≤ 8 := by rw [List.length_append]; simp; omega
    have hlen2 : (ls ++ [halfL]).length = ls.length + 1 := by rw [List.length_append]; rfl
    have HQ := Lib.hid fun W (hL : Lys W a2 (ls ++ [halfL])) (k : Acc w W) => gave_any (show partsR (refM (ls ++ [halfL]) (x1, x2, x3) (y1, y2, y3)) = (r1, r2, r3) from congrArg partsR HR2.out) (show okR (refM (ls ++ [halfL]) (x1, x2, x3) (y1, y2, y3)) = true from congrArg okR HR2.out) (HP.out a2 c2 (ls ++ [halfL]) W hl9 hL k)
    rw [hlen2] at HQ
    clear hlen2 hl9
    go_wp2_with fail
    refine (HQ.out _ HL2.out (Acc.call HW.out (show Acc W0 _ by repeat' (first | (with_reducible first | assumption | exact Acc.refl _ | refine Acc.drew ?_ | refine Acc.drewN ?_ _ | refine Acc.alloc ?_ _ | refine Acc.setCell ?_ ?_ _) | (refine leB ?_; omega))))).mono ?_
    rintro e W3 ⟨rfl, hb⟩
    obtain ⟨Ba, Bb, Bo⟩ : Blk W3 (W0.heap.size) [.int .i64 x1, .int .i64 x2, .int .i64 x3] ∧ Blk W3 (W0.heap.size + 1) [.int .i64 y1, .int .i64 y2, .int .i64 y3] ∧ Blk W3 (W1.heap.size) [.int .i64 r1, .int .i64 r2, .int .i64 r3] := by
      refine ⟨?_, ?_, ?_⟩ <;> refine Blk.keep hb ?_ <;> (repeat' (first | (with_reducible first | assumption | refine Blk.drew ?_ | refine Blk.drewN ?_ _ | apply Blk.set | (refine Blk.new ?_; focus (first | rfl | (simp; done))) | refine Blk.alloc ?_ _ | refine Blk.other ?_ ?_ _) | exact eqL rfl | (refine neB ?_; omega)))
    have ca := Ba.cell
    have fa := Ba.free
    have la_W3 := Ba.lt
    have cb := Bb.cell
    have fb := Bb.free
    have lb_W3 := Bb.lt
    have co := Bo.cell
    have fo := Bo.free
    have lo_W3 := Bo.lt
    have kaW3 : Acc W0 W3 := by
      refine Acc.call ?_ hb
      (repeat' (first | (with_reducible first | assumption | exact Acc.refl _ | refine Acc.drew ?_ | refine Acc.drewN ?_ _ | refine Acc.alloc ?_ _ | refine Acc.setCell ?_ ?_ _) | (refine leB ?_; omega)))
    clear hb
    go_wp2_with fail
    go_ret
    refine ⟨rfl, ?_⟩
    show Acc w _
    refine Acc.call HW.out (show Acc W0 _ from ?_)
    (repeat' (first | (with_reducible first | assumption | exact Acc.refl _ | refine Acc.drew ?_ | refine Acc.drewN ?_ _ | refine Acc.alloc ?_ _ | refine Acc.setCell ?_ ?_ _) | (refine leB ?_; omega)))
end Go.Proofs.YtdagcjohpmolpaaGreatDoor
