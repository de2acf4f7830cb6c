/-
  Slices of the call's own: what they hold, kept along a walk; their blocks are told apart by their types.
-/
import Derived.Test.YtdagcjohpmolpaaDoorBMem
import Derived.WalkKit
namespace Go.Proofs.YtdagcjohpmolpaaDoor
open Go.ChangeShapes Go.WideShapes Go.ChangeAt Go.RowKit
set_option linter.unusedVariables false

section
variable {w w' : World} {B sz : Nat} {e : TypeId} {v : Value} {n : Nat} {xs : List Value}
end
/-- A block, its type told. -/
def BlkT (w : World) (b : Nat) (T : TypeId) (vs : List Value) : Prop := w.heap[b]? = some (.cells vs.toArray T (0, 0))
section
variable {w w' : World} {b : Nat} {T : TypeId} {vs : List Value}
theorem BlkT.blk (h : BlkT w b T vs) : Blk w b vs := ⟨T, h⟩
theorem BlkT.lt (h : BlkT w b T vs) : b < w.heap.size := (Array.getElem?_eq_some_iff.1 h).1
theorem BlkT.keep (h : BlkT w b T vs) (hb : Below w.heap.size w w') : BlkT w' b T vs := (hb.block b h.lt).trans h
theorem BlkT.new : BlkT (w.alloc (.cells vs.toArray T)) w.heap.size T vs := by
  show (w.heap.push _)[_]? = _
  simp
theorem BlkT.alloc (h : BlkT w b T vs) (o : Obj) : BlkT (w.alloc o) b T vs := (Below.heap_alloc _ _ _ h.lt).trans h
theorem BlkT.drew (h : BlkT w b T vs) : BlkT w.drew b T vs := h
theorem BlkT.grown {row : Option Nat} (h : BlkT w b T vs) (hg : w.grownBy w' row) (hne : row ≠ some b) : BlkT w' b T vs := (hg.block b h.lt (fun q => hne q.symm)).trans h
theorem BlkT.set {k : Nat} {x : Value} (h : BlkT w b T vs) : BlkT (w.setCell ⟨b, k, none⟩ x) b T (vs.set k x) := by
  show ((w.heap.modify b _)[b]?) = _
  unfold BlkT at h
  rw [Array.getElem?_modify, if_pos rfl, h]
  simp
theorem BlkT.other {b' k : Nat} {x : Value} (h : BlkT w b T vs) (hne : b' ≠ b) : BlkT (w.setCell ⟨b', k, none⟩ x) b T vs := by
  show ((w.heap.modify b' _)[b]?) = _
  unfold BlkT at h
  rw [Array.getElem?_modify, if_neg hne, h]
end
end Go.Proofs.YtdagcjohpmolpaaDoor
