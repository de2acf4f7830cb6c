/-
  Memory: blocks of six cells.
-/
import Derived.Test.YtbihlkienhbapabDoorMem
namespace Go.Proofs.YtbihlkienhbapabDoor
open Go.ChangeShapes Go.WideShapes Go.ChangeAt Go.RowKit
set_option linter.unusedVariables false

theorem keep6 {W w' : World} (hb : Below W.heap.size W w') {b : Nat} {v0 v1 v2 v3 v4 v5 : Value} (h : W.cell? ⟨b, 0, none⟩ = some v0 ∧ W.cell? ⟨b, 1, none⟩ = some v1 ∧ W.cell? ⟨b, 2, none⟩ = some v2 ∧ W.cell? ⟨b, 3, none⟩ = some v3 ∧ W.cell? ⟨b, 4, none⟩ = some v4 ∧ W.cell? ⟨b, 5, none⟩ = some v5) :
    w'.cell? ⟨b, 0, none⟩ = some v0 ∧ w'.cell? ⟨b, 1, none⟩ = some v1 ∧ w'.cell? ⟨b, 2, none⟩ = some v2 ∧ w'.cell? ⟨b, 3, none⟩ = some v3 ∧ w'.cell? ⟨b, 4, none⟩ = some v4 ∧ w'.cell? ⟨b, 5, none⟩ = some v5 :=
  have l : b < W.heap.size := World.block_lt_of_cell? W _ h.1
  ⟨(hb.cell (p := ⟨b, 0, none⟩) l).trans h.1, (hb.cell (p := ⟨b, 1, none⟩) l).trans h.2.1, (hb.cell (p := ⟨b, 2, none⟩) l).trans h.2.2.1, (hb.cell (p := ⟨b, 3, none⟩) l).trans h.2.2.2.1, (hb.cell (p := ⟨b, 4, none⟩) l).trans h.2.2.2.2.1, (hb.cell (p := ⟨b, 5, none⟩) l).trans h.2.2.2.2.2⟩
theorem keepf6 {W w' : World} (hb : Below W.heap.size W w') {b : Nat} (h : b < W.heap.size) (hf : W.frozen? ⟨b, 0, none⟩ = false ∧ W.frozen? ⟨b, 1, none⟩ = false ∧ W.frozen? ⟨b, 2, none⟩ = false ∧ W.frozen? ⟨b, 3, none⟩ = false ∧ W.frozen? ⟨b, 4, none⟩ = false ∧ W.frozen? ⟨b, 5, none⟩ = false) :
    w'.frozen? ⟨b, 0, none⟩ = false ∧ w'.frozen? ⟨b, 1, none⟩ = false ∧ w'.frozen? ⟨b, 2, none⟩ = false ∧ w'.frozen? ⟨b, 3, none⟩ = false ∧ w'.frozen? ⟨b, 4, none⟩ = false ∧ w'.frozen? ⟨b, 5, none⟩ = false :=
  ⟨(hb.frozen (p := ⟨b, 0, none⟩) h).trans hf.1, (hb.frozen (p := ⟨b, 1, none⟩) h).trans hf.2.1, (hb.frozen (p := ⟨b, 2, none⟩) h).trans hf.2.2.1, (hb.frozen (p := ⟨b, 3, none⟩) h).trans hf.2.2.2.1, (hb.frozen (p := ⟨b, 4, none⟩) h).trans hf.2.2.2.2.1, (hb.frozen (p := ⟨b, 5, none⟩) h).trans hf.2.2.2.2.2⟩
end Go.Proofs.YtbihlkienhbapabDoor
