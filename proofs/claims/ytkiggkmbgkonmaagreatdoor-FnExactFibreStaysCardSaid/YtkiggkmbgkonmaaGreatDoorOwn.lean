/-
  Slices of the call's own: what they hold, kept along a walk; their blocks are told apart by their types.
-/
import Derived.Test.YtkiggkmbgkonmaaGreatDoorBMem
import Derived.WalkKit
namespace Go.Proofs.YtkiggkmbgkonmaaGreatDoor
open Go.ChangeShapes Go.WideShapes Go.ChangeAt Go.RowKit
set_option linter.unusedVariables false

section
variable {w w' : World} {B sz : Nat} {e : TypeId} {v : Value} {n : Nat} {xs : List Value}
theorem own_len (h : w.ownsRow B e 1 v n xs) : xs.length = n := by have := h.1; omega
theorem own_val (h : w.ownsRow B e 1 v n xs) (hn : 0 < n) : ∃ g cap, v = .slice (some ⟨g, 0, none⟩) n cap ∧ B ≤ g ∧ g < w.heap.size ∧ n ≤ cap ∧ cap ≤ maxLen ∧ ∀ (j : Nat) (u : Value), xs[j]? = some u → w.cell? ⟨g, j, none⟩ = some u := by
  have hc := fun g (hg : v.ownBlock = some g) => h.cells hg
  rcases h.2 with ⟨_, h0⟩ | ⟨g, cap, cur, rfl, hb, hg, h1, h2, _, _⟩
  · omega
  · refine ⟨g, cap, rfl, hb, (Array.getElem?_eq_some_iff.1 hg).1, h1, h2, fun j u hu => ?_⟩
    have := hc g rfl j u hu
    by_cases hj : j = 0
    · subst hj; simpa [Addr.add] using this
    · simpa [Addr.add, hj] using this
theorem own_blk (h : w.ownsRow B e 1 v n xs) (hn : 0 < n) : ∃ g cap LV, v = .slice (some ⟨g, 0, none⟩) n cap ∧ B ≤ g ∧ w.heap[g]? = some (.cells (List.toArray LV) e (0, 0)) ∧ ∀ (j : Nat) (u : Value), xs[j]? = some u → LV[j]? = some u := by
  rcases h.2 with ⟨_, h0⟩ | ⟨g, cap, cur, rfl, hb, hg, h1, h2, _, h4⟩
  · omega
  · refine ⟨g, cap, cur.toList, rfl, hb, by simpa using hg, fun j u hu => ?_⟩
    rw [← h4, List.getElem?_take] at hu
    split at hu
    · exact hu
    · cases hu
theorem own_move {g cap : Nat} (h : w.ownsRow B e sz (.slice (some ⟨g, 0, none⟩) n cap) n xs) (hw : w'.heap[g]? = w.heap[g]?) : w'.ownsRow B e sz (.slice (some ⟨g, 0, none⟩) n cap) n xs := by
  refine ⟨h.1, ?_⟩
  rcases h.2 with ⟨h0, _⟩ | ⟨g', cap', cur, hv, hb, hg, rest⟩
  · cases h0
  · injection hv with hv1 hv2 hv3
    injection hv1 with hv1
    injection hv1 with hv1
    subst hv1
    subst hv3
    exact .inr ⟨g, cap, cur, rfl, hb, hw.trans hg, rest⟩
theorem own_any (h : w.ownsRow B e 1 v n xs) : ∃ a cap, v = .slice a n cap := by
  rcases h.2 with ⟨rfl, rfl⟩ | ⟨g, cap, cur, rfl, _⟩
  · exact ⟨_, _, rfl⟩
  · exact ⟨_, _, rfl⟩
theorem own_ne {b : Nat} {T : TypeId} {cs : Array Value} {f : Nat × Nat} (h : w.ownsRow B e sz v n xs) (hb : w.heap[b]? = some (.cells cs T f)) (hT : T ≠ e) : ∀ g, v.ownBlock = some g → g ≠ b := by
  intro g hg hgb
  subst hgb
  rcases h.2 with ⟨rfl, _⟩ | ⟨g', cap, cur, rfl, _, hg', _⟩
  · cases hg
  · simp only [Value.ownBlock, Option.some.injEq] at hg
    subst hg
    rw [hb] at hg'
    injection hg' with hg'
    injection hg' with _ hg'
    exact hT hg'
theorem own_keep (h : w.ownsRow B e sz v n xs) (hb : Below w.heap.size w w') : w'.ownsRow B e sz v n xs := by
  refine ⟨h.1, ?_⟩
  rcases h.2 with hn | ⟨g, cap, cur, rfl, hB, hg, rest⟩
  · exact .inl hn
  · exact .inr ⟨g, cap, cur, rfl, hB, (hb.block g (Array.getElem?_eq_some_iff.1 hg).1).trans hg, rest⟩
theorem own_set {b k : Nat} {x : Value} (h : w.ownsRow B e sz v n xs) (hne : ∀ g, v.ownBlock = some g → g ≠ b) : (w.setCell ⟨b, k, none⟩ x).ownsRow B e sz v n xs := by
  refine ⟨h.1, ?_⟩
  rcases h.2 with hn | ⟨g, cap, cur, rfl, hB, hg, rest⟩
  · exact .inl hn
  · have hgb : b ≠ g := fun q => hne g rfl q.symm
    exact .inr ⟨g, cap, cur, rfl, hB, by simp [World.setCell, Array.getElem?_modify, hgb, hg], rest⟩
theorem own_drew (h : w.ownsRow B e sz v n xs) : w.drew.ownsRow B e sz v n xs := h
theorem own_any2 (h : w.ownsRow B e sz v n xs) : ∃ a cap, v = .slice a n cap := by
  rcases h.2 with ⟨rfl, rfl⟩ | ⟨g, cap, cur, rfl, _⟩
  · exact ⟨_, _, rfl⟩
  · exact ⟨_, _, rfl⟩
/-- Another row grew, or this one's neighbour. -/
theorem own_grown {row : Option Nat} (h : w.ownsRow B e sz v n xs) (hg : w.grownBy w' row) (hne : ∀ g, v.ownBlock = some g → row ≠ some g) : w'.ownsRow B e sz v n xs := by
  refine h.kept hg ?_
  cases hv : v.ownBlock with
  | none => exact .inl rfl
  | some g => exact .inr fun q => hne g hv q.symm
end
/-- A block, its type told. -/
def BlkT (w : World) (b : Nat) (T : TypeId) (vs : List Value) : Prop := w.heap[b]? = some (.cells vs.toArray T (0, 0))
section
variable {w w' : World} {b : Nat} {T : TypeId} {vs : List Value}
theorem BlkT.blk (h : BlkT w b T vs) : Blk w b vs := ⟨T, h⟩
theorem BlkT.lt (h : BlkT w b T vs) : b < w.heap.size := (Array.getElem?_eq_some_iff.1 h).1
theorem BlkT.keep (h : BlkT w b T vs) (hb : Below w.heap.size w w') : BlkT w' b T vs := (hb.block b h.lt).trans h
theorem BlkT.new : BlkT (w.alloc (.cells vs.toArray T)) w.heap.size T vs := by
  show (w.heap.push _)[_]? = _
  simp
theorem BlkT.alloc (h : BlkT w b T vs) (o : Obj) : BlkT (w.alloc o) b T vs := (Below.heap_alloc _ _ _ h.lt).trans h
theorem BlkT.drew (h : BlkT w b T vs) : BlkT w.drew b T vs := h
theorem BlkT.grown {row : Option Nat} (h : BlkT w b T vs) (hg : w.grownBy w' row) (hne : row ≠ some b) : BlkT w' b T vs := (hg.block b h.lt (fun q => hne q.symm)).trans h
theorem BlkT.set {k : Nat} {x : Value} (h : BlkT w b T vs) : BlkT (w.setCell ⟨b, k, none⟩ x) b T (vs.set k x) := by
  show ((w.heap.modify b _)[b]?) = _
  unfold BlkT at h
  rw [Array.getElem?_modify, if_pos rfl, h]
  simp
theorem BlkT.other {b' k : Nat} {x : Value} (h : BlkT w b T vs) (hne : b' ≠ b) : BlkT (w.setCell ⟨b', k, none⟩ x) b T vs := by
  show ((w.heap.modify b' _)[b]?) = _
  unfold BlkT at h
  rw [Array.getElem?_modify, if_neg hne, h]
theorem BlkT.new' {n : Nat} (e : n = w.heap.size) : BlkT (w.alloc (.cells vs.toArray T)) n T vs := by
  subst e
  exact BlkT.new
theorem BlkT.set' {k : Nat} {x : Value} {vs' : List Value} (h : BlkT w b T vs) (e : vs' = vs.set k x) : BlkT (w.setCell ⟨b, k, none⟩ x) b T vs' := by
  subst e
  exact h.set
end
end Go.Proofs.YtkiggkmbgkonmaaGreatDoor
