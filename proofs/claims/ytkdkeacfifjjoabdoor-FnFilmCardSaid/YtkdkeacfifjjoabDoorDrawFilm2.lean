/-
  The draw of a film and both indexes.
-/
import Derived.Test.YtkdkeacfifjjoabDoorDrawFilm
import Derived.Deep.RegionHeld3
import Derived.Test.YtkdkeacfifjjoabDoorBMem
namespace Go.Proofs.YtkdkeacfifjjoabDoor
open Go.ChangeShapes Go.WideShapes Go.ChangeAt Go.RowKit
set_option linter.unusedVariables false

set_option linter.unusedSimpArgs false
/-- A list's cells in a block. -/
def CellsL (w : World) (g : Nat) (ls : List L4) : Prop := g < w.heap.size ∧ ∀ (j : Nat) (u : Value), (layC ls)[j]? = some u → w.cell? ⟨g, j, none⟩ = some u
theorem CellsL.keep {w w' : World} {g : Nat} {ls : List L4} (h : CellsL w g ls) (hb : Below w.heap.size w w') : CellsL w' g ls :=
  ⟨Nat.lt_of_lt_of_le h.1 hb.size, fun j u hu => (hb.cell (p := ⟨g, j, none⟩) h.1).trans (h.2 j u hu)⟩
theorem CellsL.lys {w : World} {g : Nat} {ls : List L4} (h : CellsL w g ls) (hi : ∀ l ∈ ls, i64L l) : Lys w (some ⟨g, 0, none⟩) ls := by
  refine ⟨hi, .inr ⟨g, 0, rfl, h.1, fun i l hl => ?_⟩⟩
  obtain ⟨k0, k1, k2, k3⟩ := layC_at hl
  simp only [Nat.zero_add]
  exact ⟨h.2 _ _ k0, h.2 _ _ k1, h.2 _ _ k2, h.2 _ _ k3⟩
theorem CellsL.set {w : World} {g k o : Nat} {v : Value} {ls : List L4} (h : CellsL w g ls) (hk : k ≠ g) : CellsL (w.setCell ⟨k, o, none⟩ v) g ls :=
  ⟨by simpa [World.setCell] using h.1, fun j u hu => (World.cell?_of_block (w := w) (Below.heap_setCell w ⟨k, o, none⟩ v g (fun e => hk e.symm))).trans (h.2 j u hu)⟩
theorem own_cells4 {w : World} {B n g cap : Nat} {e : TypeId} {ls : List L4} (h : w.ownsRow B e 4 (.slice (some ⟨g, 0, none⟩) n cap) ls.length (layC ls)) : CellsL w g ls := by
  rcases h.2 with ⟨h0, _⟩ | ⟨g', cap', cur, hv, hB, hg, h1, h2, h3, h4⟩
  · cases h0
  · injection hv with hv1 hv2 hv3
    injection hv1 with hv1
    injection hv1 with hv1
    subst hv1
    refine ⟨(Array.getElem?_eq_some_iff.1 hg).1, fun j u hu => ?_⟩
    have hB : Blk w g cur.toList := ⟨e, by simpa using hg⟩
    rw [hB.cell]
    rw [← h4, List.getElem?_take] at hu
    split at hu
    · exact hu
    · cases hu
theorem own_some {w : World} {B : Nat} {e : TypeId} {v : Value} {ls : List L4} (h : w.ownsRow B e 4 v ls.length (layC ls)) (hn : v ≠ .slice none 0 0) : ∃ g cap, v = .slice (some ⟨g, 0, none⟩) ls.length cap ∧ B ≤ g := by
  rcases h.2 with ⟨rfl, h0⟩ | ⟨g, cap, cur, rfl, hB, _⟩
  · exact absurd rfl hn
  · exact ⟨g, cap, rfl, hB⟩
/-- A drawn film and both indexes. -/
def DrewB (w : World) (e : Ending) (w' : World) : Prop :=
  ∃ (g : Nat) (ls : List L4) (cap : Nat) (x1 x2 x3 y1 y2 y3 : Int), e = .returned (.tuple #[.slice (some ⟨g, 0, none⟩) ls.length cap, .agg #[.int .i64 x1, .int .i64 x2, .int .i64 x3], .agg #[.int .i64 y1, .int .i64 y2, .int .i64 y3]]) ∧ CellsL w' g ls ∧ w.heap.size ≤ g ∧ (∀ l ∈ ls, i64L l) ∧ ls.length ≤ 4 ∧ (i64B x1 ∧ i64B x2 ∧ i64B x3) ∧ (i64B y1 ∧ i64B y2 ∧ i64B y3) ∧ Below w.heap.size w w'
end Go.Proofs.YtkdkeacfifjjoabDoor
