/-
  Memory: whole blocks: a block and what its cells hold, kept along a walk.
-/
import Derived.Test.YtbihlkienhbapabDoorMem
import Derived.OneCell
namespace Go.Proofs.YtbihlkienhbapabDoor
open Go.ChangeShapes Go.WideShapes Go.ChangeAt Go.RowKit
set_option linter.unusedVariables false

theorem neB {a b : Nat} (h : a < b ∨ b < a) : a ≠ b := by omega
theorem leB {a b : Nat} (h : a ≤ b) : a ≤ b := h
theorem eqL {a b : List Value} (h : a = b) : a = b := h
/-- Block b holds these values, and may be written. -/
def Blk (w : World) (b : Nat) (vs : List Value) : Prop := ∃ T, w.heap[b]? = some (.cells vs.toArray T (0, 0))
theorem Blk.cell {w : World} {b : Nat} {vs : List Value} (h : Blk w b vs) : ∀ k, w.cell? ⟨b, k, none⟩ = vs[k]? := by
  obtain ⟨T, h⟩ := h
  intro k
  simp [World.cell?, h]
theorem Blk.free {w : World} {b : Nat} {vs : List Value} (h : Blk w b vs) : ∀ k, w.frozen? ⟨b, k, none⟩ = false := by
  obtain ⟨T, h⟩ := h
  intro k
  simp [World.frozen?, h]
theorem Blk.lt {w : World} {b : Nat} {vs : List Value} (h : Blk w b vs) : b < w.heap.size := by
  obtain ⟨T, h⟩ := h
  exact lt_of_block h
theorem Blk.keep {w w' : World} {b : Nat} {vs : List Value} (hb : Below w.heap.size w w') (h : Blk w b vs) : Blk w' b vs := by
  have l := h.lt
  obtain ⟨T, h⟩ := h
  exact ⟨T, (hb.block b l).trans h⟩
theorem Blk.drew {w : World} {b : Nat} {vs : List Value} (h : Blk w b vs) : Blk w.drew b vs := h
theorem Blk.drewN {w : World} {b : Nat} {vs : List Value} (h : Blk w b vs) (n : Nat) : Blk (w.drewN n) b vs := h
theorem Blk.alloc {w : World} {b : Nat} {vs : List Value} (h : Blk w b vs) (o : Obj) : Blk (w.alloc o) b vs := by
  have l := h.lt
  obtain ⟨T, h⟩ := h
  exact ⟨T, (Below.heap_alloc _ _ _ l).trans h⟩
theorem Blk.new {w : World} {n : Nat} {vs : List Value} {T : TypeId} (e : n = w.heap.size) : Blk (w.alloc (.cells vs.toArray T)) n vs := by
  subst e
  exact ⟨T, by show (w.heap.push _)[_]? = _; simp⟩
theorem Blk.other {w : World} {b b' k : Nat} {s : Option Nat} {vs : List Value} (h : Blk w b vs) (e : b ≠ b') (v : Value) : Blk (w.setCell ⟨b', k, s⟩ v) b vs := by
  obtain ⟨T, h⟩ := h
  exact ⟨T, (Below.heap_setCell _ _ _ _ e).trans h⟩
theorem Blk.set {w : World} {b k : Nat} {v : Value} {vs vs' : List Value} (h : Blk w b vs) (e : vs' = vs.set k v) : Blk (w.setCell ⟨b, k, none⟩ v) b vs' := by
  have l := h.lt
  obtain ⟨T, h⟩ := h
  subst e
  refine ⟨T, ?_⟩
  show (w.heap.modify b _)[b]? = _
  rw [Array.getElem?_modify, if_pos rfl, h]
  simp
end Go.Proofs.YtbihlkienhbapabDoor
