/-
  The draw of a film and both indexes.
-/
import Derived.Test.YtpgklllgmfaekaaGreatDoorDrawFilm
import Derived.Deep.RegionHeld3
import Derived.Test.YtpgklllgmfaekaaGreatDoorBMem
namespace Go.Proofs.YtpgklllgmfaekaaGreatDoor
open Go.ChangeShapes Go.WideShapes Go.ChangeAt Go.RowKit
set_option linter.unusedVariables false

set_option linter.unusedSimpArgs false
/-- A list's cells in a block. -/
def CellsL (w : World) (g : Nat) (ls : List L4) : Prop := g < w.heap.size ∧ ∀ (j : Nat) (u : Value), (layC ls)[j]? = some u → w.cell? ⟨g, j, none⟩ = some u
theorem CellsL.keep {w w' : World} {g : Nat} {ls : List L4} (h : CellsL w g ls) (hb : Below w.heap.size w w') : CellsL w' g ls :=
  ⟨Nat.lt_of_lt_of_le h.1 hb.size, fun j u hu => (hb.cell (p := ⟨g, j, none⟩) h.1).trans (h.2 j u hu)⟩
theorem CellsL.lys {w : World} {g : Nat} {ls : List L4} (h : CellsL w g ls) (hi : ∀ l ∈ ls, i64L l) : Lys w (some ⟨g, 0, none⟩) ls := by
  refine ⟨hi, .inr ⟨g, 0, rfl, h.1, fun i l hl => ?_⟩⟩
  obtain ⟨k0, k1, k2, k3⟩ := layC_at hl
  simp only [Nat.zero_add]
  exact ⟨h.2 _ _ k0, h.2 _ _ k1, h.2 _ _ k2, h.2 _ _ k3⟩
theorem CellsL.set {w : World} {g k o : Nat} {v : Value} {ls : List L4} (h : CellsL w g ls) (hk : k ≠ g) : CellsL (w.setCell ⟨k, o, none⟩ v) g ls :=
  ⟨by simpa [World.setCell] using h.1, fun j u hu => (World.cell?_of_block (w := w) (Below.heap_setCell w ⟨k, o, none⟩ v g (fun e => hk e.symm))).trans (h.2 j u hu)⟩
theorem own_cells4 {w : World} {B n g cap : Nat} {e : TypeId} {ls : List L4} (h : w.ownsRow B e 4 (.slice (some ⟨g, 0, none⟩) n cap) ls.length (layC ls)) : CellsL w g ls := by
  rcases h.2 with ⟨h0, _⟩ | ⟨g', cap', cur, hv, hB, hg, h1, h2, h3, h4⟩
  · cases h0
  · injection hv with hv1 hv2 hv3
    injection hv1 with hv1
    injection hv1 with hv1
    subst hv1
    refine ⟨(Array.getElem?_eq_some_iff.1 hg).1, fun j u hu => ?_⟩
    have hB : Blk w g cur.toList := ⟨e, by simpa using hg⟩
    rw [hB.cell]
    rw [← h4, List.getElem?_take] at hu
    split at hu
    · exact hu
    · cases hu
theorem own_some {w : World} {B : Nat} {e : TypeId} {v : Value} {ls : List L4} (h : w.ownsRow B e 4 v ls.length (layC ls)) (hn : v ≠ .slice none 0 0) : ∃ g cap, v = .slice (some ⟨g, 0, none⟩) ls.length cap ∧ B ≤ g := by
  rcases h.2 with ⟨rfl, h0⟩ | ⟨g, cap, cur, rfl, hB, _⟩
  · exact absurd rfl hn
  · exact ⟨g, cap, rfl, hB⟩
/-- A drawn film and both indexes. -/
def DrewB (w : World) (e : Ending) (w' : World) : Prop :=
  ∃ (g : Nat) (ls : List L4) (cap : Nat) (x1 x2 x3 y1 y2 y3 : Int), e = .returned (.tuple #[.slice (some ⟨g, 0, none⟩) ls.length cap, .agg #[.int .i64 x1, .int .i64 x2, .int .i64 x3], .agg #[.int .i64 y1, .int .i64 y2, .int .i64 y3]]) ∧ CellsL w' g ls ∧ w.heap.size ≤ g ∧ (∀ l ∈ ls, i64L l) ∧ ls.length ≤ 4 ∧ (i64B x1 ∧ i64B x2 ∧ i64B x3) ∧ (i64B y1 ∧ i64B y2 ∧ i64B y3) ∧ Below w.heap.size w w'
set_option maxRecDepth 100000 in
set_option maxHeartbeats 16000000 in
theorem between_any' (a : Option Addr) (len cap : Nat) (w : World) (h : Code8 w a len cap) :
    Calls Tryz.prog 9 #[.slice a len cap] w (DrewB w) := by
  have H0 := Lib.hid ((h.alloc (.cells #[.int .i64 0, .int .i64 0, .int .i64 0] 25)).alloc (.cells #[.int .i64 0, .int .i64 0, .int .i64 0] 25))
  clear h
  go_enter Tryz.func9, Tryz.ntmps9
  go_wp2_with fail
  refine (open_any a len cap _ H0.out).mono ?_
  rintro e W1 ⟨b, rfl, hb1, bel, hr⟩
  have Br : Blk W1 (w.heap.size) [.int .i64 0, .int .i64 0, .int .i64 0] := Blk.keep bel (by repeat' (first | (with_reducible first | assumption | refine Blk.drew ?_ | refine Blk.drewN ?_ _ | apply Blk.set | (refine Blk.new ?_; focus (first | rfl | (simp; done))) | refine Blk.alloc ?_ _ | refine Blk.other ?_ ?_ _) | exact eqL rfl | (refine neB ?_; omega)))
  have Bs : Blk W1 (w.heap.size + 1) [.int .i64 0, .int .i64 0, .int .i64 0] := Blk.keep bel (by repeat' (first | (with_reducible first | assumption | refine Blk.drew ?_ | refine Blk.drewN ?_ _ | apply Blk.set | (refine Blk.new ?_; focus (first | rfl | (simp; done))) | refine Blk.alloc ?_ _ | refine Blk.other ?_ ?_ _) | exact eqL rfl | (refine neB ?_; omega)))
  have cr := Br.cell
  have fr := Br.free
  have lr_W1 := Br.lt
  have cs := Bs.cell
  have fs := Bs.free
  have ls_W1 := Bs.lt
  have kaW1 : Acc w W1 := by
    refine Acc.call ?_ bel
    (repeat' (first | (with_reducible first | assumption | exact Acc.refl _ | refine Acc.drew ?_ | refine Acc.drewN ?_ _ | refine Acc.alloc ?_ _ | refine Acc.setCell ?_ ?_ _) | (refine leB ?_; omega)))
  have lsW1 := kaW1.size
  have hb2 : w.heap.size + 1 < b := by
    simp at hb1
    omega
  have bwW1 := hr.1
  have HR := Lib.hid fun W (k : Below (b + 1) W1 W) => hr.keep k
  clear hb1 bel hr H0
  go_wp2_with fail
  refine (film_any b 0 _ (HR.out _ (by repeat' (first | (with_reducible first | assumption | exact Below.refl _ _ | refine Below.drew ?_ | refine below_alloc ?_ ?_ _ | refine below_set ?_ ?_ _) | (refine leB ?_; omega)))) (by omega)).mono ?_
  rintro e W2 ⟨v, ls, q, rfl, hnn, hown, hi4, hlen, ho, hq, hr⟩
  have Br : Blk W2 (w.heap.size) [.int .i64 0, .int .i64 0, .int .i64 0] := Blk.keepo ho (neB (by omega)) (by repeat' (first | (with_reducible first | assumption | refine Blk.drew ?_ | refine Blk.drewN ?_ _ | apply Blk.set | (refine Blk.new ?_; focus (first | rfl | (simp; done))) | refine Blk.alloc ?_ _ | refine Blk.other ?_ ?_ _) | exact eqL rfl | (refine neB ?_; omega)))
  have Bs : Blk W2 (w.heap.size + 1) [.int .i64 0, .int .i64 0, .int .i64 0] := Blk.keepo ho (neB (by omega)) (by repeat' (first | (with_reducible first | assumption | refine Blk.drew ?_ | refine Blk.drewN ?_ _ | apply Blk.set | (refine Blk.new ?_; focus (first | rfl | (simp; done))) | refine Blk.alloc ?_ _ | refine Blk.other ?_ ?_ _) | exact eqL rfl | (refine neB ?_; omega)))
  have cr := Br.cell
  have fr := Br.free
  have lr_W2 := Br.lt
  have cs := Bs.cell
  have fs := Bs.free
  have ls_W2 := Bs.lt
  have kaW2 : Acc w W2 := by
    refine Below.trans (b := _) ?_ (ho.below ?_ (by omega))
    · show Acc w _
      (repeat' (first | (with_reducible first | assumption | exact Acc.refl _ | refine Acc.drew ?_ | refine Acc.drewN ?_ _ | refine Acc.alloc ?_ _ | refine Acc.setCell ?_ ?_ _) | (refine leB ?_; omega)))
    · (refine Nat.le_trans ?_ (Nat.le_of_lt_succ (Nat.lt_succ_of_le (Nat.le_refl _))); (first | omega | (simp; omega)))
  have lsW2 := kaW2.size
  have bwW2 : b < W2.heap.size := hr.1
  have HR := Lib.hid fun W (k : Below (b + 1) W2 W) => hr.keep k
  clear ho hr
  obtain ⟨g, cap', rfl, hBg⟩ := own_some hown hnn
  have HI4 := Lib.hid hi4
  have HLE := Lib.hid hlen
  have OW := Lib.hid hown
  clear hnn hi4 hlen hown
  have hbB : b < W1.heap.size := bwW1
  go_wp2_with fail
  refine (index_any b q _ (HR.out _ (by repeat' (first | (with_reducible first | assumption | exact Below.refl _ _ | refine Below.drew ?_ | refine below_alloc ?_ ?_ _ | refine below_set ?_ ?_ _) | (refine leB ?_; omega)))) (by omega)).mono ?_
  rintro e W3 ⟨x1, x2, x3, q2, rfl, hxi, ho, hq2, hr⟩
  have OW3 := Lib.hid (own_only (own_from OW.out (show Acc W2 _ by repeat' (first | (with_reducible first | assumption | exact Acc.refl _ | refine Acc.drew ?_ | refine Acc.drewN ?_ _ | refine Acc.alloc ?_ _ | refine Acc.setCell ?_ ?_ _) | (refine leB ?_; omega)))) ho hbB)
  have Br : Blk W3 (w.heap.size) [.int .i64 0, .int .i64 0, .int .i64 0] := Blk.keepo ho (neB (by omega)) (by repeat' (first | (with_reducible first | assumption | refine Blk.drew ?_ | refine Blk.drewN ?_ _ | apply Blk.set | (refine Blk.new ?_; focus (first | rfl | (simp; done))) | refine Blk.alloc ?_ _ | refine Blk.other ?_ ?_ _) | exact eqL rfl | (refine neB ?_; omega)))
  have Bs : Blk W3 (w.heap.size + 1) [.int .i64 0, .int .i64 0, .int .i64 0] := Blk.keepo ho (neB (by omega)) (by repeat' (first | (with_reducible first | assumption | refine Blk.drew ?_ | refine Blk.drewN ?_ _ | apply Blk.set | (refine Blk.new ?_; focus (first | rfl | (simp; done))) | refine Blk.alloc ?_ _ | refine Blk.other ?_ ?_ _) | exact eqL rfl | (refine neB ?_; omega)))
  have cr := Br.cell
  have fr := Br.free
  have lr_W3 := Br.lt
  have cs := Bs.cell
  have fs := Bs.free
  have ls_W3 := Bs.lt
  have kaW3 : Acc w W3 := by
    refine Below.trans (b := _) ?_ (ho.below ?_ (by omega))
    · show Acc w _
      (repeat' (first | (with_reducible first | assumption | exact Acc.refl _ | refine Acc.drew ?_ | refine Acc.drewN ?_ _ | refine Acc.alloc ?_ _ | refine Acc.setCell ?_ ?_ _) | (refine leB ?_; omega)))
    · (refine Nat.le_trans ?_ (Nat.le_of_lt_succ (Nat.lt_succ_of_le (Nat.le_refl _))); (first | omega | (simp; omega)))
  have lsW3 := kaW3.size
  have bwW3 : b < W3.heap.size := hr.1
  have HR := Lib.hid fun W (k : Below (b + 1) W3 W) => hr.keep k
  clear ho hr
  go_upto_region 4 with fail
  go_region_held3 (fun w' => (∀ k, w'.cell? ⟨W3.heap.size, k, none⟩ = [.int .i64 x1, .int .i64 x2, .int .i64 x3][k]?))
    (((try dsimp only); (refine Blk.cell ?_ <;> (repeat' (first | (with_reducible first | assumption | refine Blk.drew ?_ | refine Blk.drewN ?_ _ | apply Blk.set | (refine Blk.new ?_; focus (first | rfl | (simp; done))) | refine Blk.alloc ?_ _ | refine Blk.other ?_ ?_ _) | exact eqL rfl | (refine neB ?_; omega))))))
    (first
      | (go_at_call 22; refine (index_any b q2 _ (HR.out _ (by repeat' (first | (with_reducible first | assumption | exact Below.refl _ _ | refine Below.drew ?_ | refine below_alloc ?_ ?_ _ | refine below_set ?_ ?_ _) | (refine leB ?_; omega)))) (by omega)).mono ?_; rintro e W4 ⟨y1, y2, y3, q3, rfl, hyi, ho, hq3, hr⟩; have Br : Blk W4 (w.heap.size) [.int .i64 0, .int .i64 0, .int .i64 0] := Blk.keepo ho (neB (by omega)) (by repeat' (first | (with_reducible first | assumption | refine Blk.drew ?_ | refine Blk.drewN ?_ _ | apply Blk.set | (refine Blk.new ?_; focus (first | rfl | (simp; done))) | refine Blk.alloc ?_ _ | refine Blk.other ?_ ?_ _) | exact eqL rfl | (refine neB ?_; omega))); have Bs : Blk W4 (w.heap.size + 1) [.int .i64 0, .int .i64 0, .int .i64 0] := Blk.keepo ho (neB (by omega)) (by repeat' (first | (with_reducible first | assumption | refine Blk.drew ?_ | refine Blk.drewN ?_ _ | apply Blk.set | (refine Blk.new ?_; focus (first | rfl | (simp; done))) | refine Blk.alloc ?_ _ | refine Blk.other ?_ ?_ _) | exact eqL rfl | (refine neB ?_; omega))); have Bx : Blk W4 (W3.heap.size) [.int .i64 x1, .int .i64 x2, .int .i64 x3] := Blk.keepo ho (neB (by omega)) (by repeat' (first | (with_reducible first | assumption | refine Blk.drew ?_ | refine Blk.drewN ?_ _ | apply Blk.set | (refine Blk.new ?_; focus (first | rfl | (simp; done))) | refine Blk.alloc ?_ _ | refine Blk.other ?_ ?_ _) | exact eqL rfl | (refine neB ?_; omega))); have cr := Br.cell; have fr := Br.free; have lr_W4 := Br.lt; have cs := Bs.cell; have fs := Bs.free; have ls_W4 := Bs.lt; have cx := Bx.cell; have fx := Bx.free; have lx_W4 := Bx.lt; have kzW4 : Acc w W4 := (by refine Below.trans (b := _) ?_ (ho.below ?_ (by omega)); (focus (show Acc w _; (repeat' (first | (with_reducible first | assumption | exact Acc.refl _ | refine Acc.drew ?_ | refine Acc.drewN ?_ _ | refine Acc.alloc ?_ _ | refine Acc.setCell ?_ ?_ _) | (refine leB ?_; omega))))); (focus (first | omega | (simp; omega)))); have OW4 := Lib.hid (own_only (own_from OW3.out (show Acc W3 _ by repeat' (first | (with_reducible first | assumption | exact Acc.refl _ | refine Acc.drew ?_ | refine Acc.drewN ?_ _ | refine Acc.alloc ?_ _ | refine Acc.setCell ?_ ?_ _) | (refine leB ?_; omega)))) ho hbB); have ls34 := ho.size; clear ho hr))
  all_goals
    go_wp2_with fail
    refine bodyPost_ret (v := .tuple #[.slice (some ⟨g, 0, none⟩) ls.length cap', .agg #[.int .i64 x1, .int .i64 x2, .int .i64 x3], .agg #[.int .i64 y1, .int .i64 y2, .int .i64 y3]]) (by simp [results, Tryz.results9, go_sem, *]) rfl ⟨g, ls, cap', x1, x2, x3, y1, y2, y3, rfl, own_cells4 (B := W1.heap.size) (cap := cap') (n := ls.length) (e := 49) ?_, by omega, HI4.out, HLE.out, hxi, hyi, ?_⟩
    · (repeat' (with_reducible first | exact OW4.out | refine own_drew ?_ | refine own_set ?_ ?_))
      all_goals
        intro g' hg'
        have := own_row OW4.out hg'
        omega
    · (show Acc w _); (repeat' (first | (with_reducible first | assumption | exact Acc.refl _ | refine Acc.drew ?_ | refine Acc.drewN ?_ _ | refine Acc.alloc ?_ _ | refine Acc.setCell ?_ ?_ _) | (refine leB ?_; omega)))
end Go.Proofs.YtpgklllgmfaekaaGreatDoor
